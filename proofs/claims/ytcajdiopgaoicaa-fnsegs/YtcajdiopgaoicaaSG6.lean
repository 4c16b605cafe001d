/- Texts of one proof, one behind the other: SCut14, SDrop14, SCrash14, Ok14, Okk14. -/
import Derived.Test.YtcajdiopgaoicaaRows
import Derived.Test.YtcajdiopgaoicaaSG1
import Derived.Test.YtcajdiopgaoicaaSG2
import Derived.Test.YtcajdiopgaoicaaSG3
import Derived.Test.YtcajdiopgaoicaaSG4
import Derived.Test.YtcajdiopgaoicaaSG5
import Derived.Deep.RegionHeld3
set_option linter.unusedVariables false
set_option linter.unusedSimpArgs false
namespace Go.Proofs.Ytcajdiopgaoicaa.SCut14
open Go.ChangeShapes Go.WideShapes Go.ChangeAt Go.RowKit Fil14 DiskH14 DkH14 SDk14 SOk14 SRd14 App14 SLess14 SCopy14 SRef14 SCom14 SPut14
open DkH14 (row_step)
/-- What DiskCut answers. -/
def cutD (room : Int) (ps : List TF) (nm n : Int) : (Int × List TF) × Int := if (atD room ps nm).2 = 0 then (if 0 ≤ n ∧ n ≤ (bytesAt ps (atD room ps nm).1.toNat).size then ((room, putF ps (nm, (bytesAt ps (atD room ps nm).1.toNat).extract 0 n.toNat, ByteArray.empty)), 0) else (refD 2 room ps, 2)) else (refD (atD room ps nm).2 room ps, (atD room ps nm).2)
abbrev oE0 : Oper := { dst := some 17, op := Go.Op.move (Go.Operand.tmp 9), type := 3, pos := "l14_disk.go:124", after := #[], guard := none }
abbrev oE1 : Oper := { dst := some 18, op := Go.Op.binOp Go.BinOp.eql 3 (Go.Operand.tmp 17) (Go.Operand.const (Go.Value.int Go.IntKind.i64 0)) 3, type := 4, pos := "l14_disk.go:124", after := #[{ on := 0, ground := Go.Ground.data }], guard := none }
abbrev oE2 : Oper := { dst := some 19, op := Go.Op.move (Go.Operand.tmp 18), type := 4, pos := "l14_disk.go:124", after := #[{ on := 1, ground := Go.Ground.data }], guard := none }
abbrev oE3 : Oper := { dst := some 20, op := Go.Op.move (Go.Operand.tmp 2), type := 3, pos := "l14_disk.go:124", after := #[{ on := 2, ground := Go.Ground.guard }], guard := some (2, true) }
abbrev oE4 : Oper := { dst := some 21, op := Go.Op.fieldAddr 26 (Go.Operand.tmp 3) 1, type := 0, pos := "l14_disk.go:124", after := #[{ on := 2, ground := Go.Ground.guard }], guard := some (2, true) }
abbrev oE5 : Oper := { dst := some 22, op := Go.Op.load 24 (Go.Operand.tmp 21), type := 24, pos := "l14_disk.go:124", after := #[{ on := 4, ground := Go.Ground.data }, { on := 2, ground := Go.Ground.guard }], guard := some (2, true) }
abbrev oE6 : Oper := { dst := some 23, op := Go.Op.move (Go.Operand.tmp 8), type := 3, pos := "l14_disk.go:124", after := #[{ on := 2, ground := Go.Ground.guard }], guard := some (2, true) }
abbrev oE7 : Oper := { dst := some 24, op := Go.Op.indexAddr 24 (Go.Operand.tmp 22) (Go.Operand.tmp 23), type := 0, pos := "l14_disk.go:124", after := #[{ on := 5, ground := Go.Ground.data }, { on := 6, ground := Go.Ground.data }, { on := 2, ground := Go.Ground.guard }], guard := some (2, true) }
abbrev oE8 : Oper := { dst := some 25, op := Go.Op.fieldAddr 54 (Go.Operand.tmp 24) 1, type := 0, pos := "l14_disk.go:124", after := #[{ on := 7, ground := Go.Ground.data }, { on := 2, ground := Go.Ground.guard }], guard := some (2, true) }
abbrev oE9 : Oper := { dst := some 26, op := Go.Op.load 9 (Go.Operand.tmp 25), type := 9, pos := "l14_disk.go:124", after := #[{ on := 8, ground := Go.Ground.data }, { on := 2, ground := Go.Ground.guard }], guard := some (2, true) }
abbrev oE10 : Oper := { dst := some 27, op := Go.Op.call { callee := Go.Callee.builtin Go.Builtin.len, args := #[Go.Operand.tmp 26], argTypes := #[9] }, type := 3, pos := "l14_disk.go:124", after := #[{ on := 9, ground := Go.Ground.data }, { on := 2, ground := Go.Ground.guard }], guard := some (2, true) }
abbrev oE11 : Oper := { dst := some 28, op := Go.Op.fieldAddr 26 (Go.Operand.tmp 3) 1, type := 0, pos := "l14_disk.go:124", after := #[{ on := 2, ground := Go.Ground.guard }], guard := some (2, true) }
abbrev oE12 : Oper := { dst := some 29, op := Go.Op.load 24 (Go.Operand.tmp 28), type := 24, pos := "l14_disk.go:124", after := #[{ on := 11, ground := Go.Ground.data }, { on := 2, ground := Go.Ground.guard }], guard := some (2, true) }
abbrev oE13 : Oper := { dst := some 30, op := Go.Op.move (Go.Operand.tmp 8), type := 3, pos := "l14_disk.go:124", after := #[{ on := 2, ground := Go.Ground.guard }], guard := some (2, true) }
abbrev oE14 : Oper := { dst := some 31, op := Go.Op.indexAddr 24 (Go.Operand.tmp 29) (Go.Operand.tmp 30), type := 0, pos := "l14_disk.go:124", after := #[{ on := 12, ground := Go.Ground.data }, { on := 13, ground := Go.Ground.data }, { on := 2, ground := Go.Ground.guard }], guard := some (2, true) }
abbrev oE15 : Oper := { dst := some 32, op := Go.Op.fieldAddr 54 (Go.Operand.tmp 31) 2, type := 0, pos := "l14_disk.go:124", after := #[{ on := 14, ground := Go.Ground.data }, { on := 2, ground := Go.Ground.guard }], guard := some (2, true) }
abbrev oE16 : Oper := { dst := some 33, op := Go.Op.load 9 (Go.Operand.tmp 32), type := 9, pos := "l14_disk.go:124", after := #[{ on := 15, ground := Go.Ground.data }, { on := 2, ground := Go.Ground.guard }], guard := some (2, true) }
abbrev oE17 : Oper := { dst := some 34, op := Go.Op.call { callee := Go.Callee.builtin Go.Builtin.len, args := #[Go.Operand.tmp 33], argTypes := #[9] }, type := 3, pos := "l14_disk.go:124", after := #[{ on := 16, ground := Go.Ground.data }, { on := 2, ground := Go.Ground.guard }], guard := some (2, true) }
abbrev oE18 : Oper := { dst := some 35, op := Go.Op.binOp Go.BinOp.add 3 (Go.Operand.tmp 27) (Go.Operand.tmp 34) 3, type := 3, pos := "l14_disk.go:124", after := #[{ on := 10, ground := Go.Ground.data }, { on := 17, ground := Go.Ground.data }, { on := 2, ground := Go.Ground.guard }], guard := some (2, true) }
abbrev oE19 : Oper := { dst := some 36, op := Go.Op.call { callee := Go.Callee.value (Go.Operand.func 44), args := #[Go.Operand.tmp 20, Go.Operand.const (Go.Value.int Go.IntKind.i64 0), Go.Operand.tmp 35], argTypes := #[3, 3, 3] }, type := 4, pos := "l14_disk.go:124", after := #[{ on := 3, ground := Go.Ground.data }, { on := 18, ground := Go.Ground.data }, { on := 2, ground := Go.Ground.chain }, { on := 2, ground := Go.Ground.guard }], guard := some (2, true) }
abbrev oE20 : Oper := { dst := some 37, op := Go.Op.unOp Go.UnOp.not 4 (Go.Operand.tmp 36), type := 4, pos := "l14_disk.go:124", after := #[{ on := 19, ground := Go.Ground.data }, { on := 2, ground := Go.Ground.guard }], guard := some (2, true) }
abbrev oE21 : Oper := { dst := some 38, op := Go.Op.pick (Go.Operand.tmp 19) (Go.Operand.tmp 37) (Go.Operand.const (Go.Value.bool false)), type := 4, pos := "l14_disk.go:124", after := #[{ on := 2, ground := Go.Ground.data }, { on := 20, ground := Go.Ground.data }], guard := none }
abbrev oF0 : Oper := { dst := some 50, op := Go.Op.load 26 (Go.Operand.tmp 3), type := 26, pos := "l14_disk.go:131", after := #[], guard := none }
abbrev oF1 : Oper := { dst := some 51, op := Go.Op.move (Go.Operand.tmp 1), type := 3, pos := "l14_disk.go:131", after := #[], guard := none }
abbrev oF2 : Oper := { dst := some 52, op := Go.Op.fieldAddr 54 (Go.Operand.tmp 10) 1, type := 0, pos := "l14_disk.go:131", after := #[], guard := none }
abbrev oF3 : Oper := { dst := some 53, op := Go.Op.load 9 (Go.Operand.tmp 52), type := 9, pos := "l14_disk.go:131", after := #[{ on := 2, ground := Go.Ground.data }], guard := none }
abbrev oF4 : Oper := { dst := some 54, op := Go.Op.fieldAddr 54 (Go.Operand.tmp 10) 2, type := 0, pos := "l14_disk.go:131", after := #[], guard := none }
abbrev oF5 : Oper := { dst := some 55, op := Go.Op.load 9 (Go.Operand.tmp 54), type := 9, pos := "l14_disk.go:131", after := #[{ on := 4, ground := Go.Ground.data }], guard := none }
abbrev oF6 : Oper := { dst := some 56, op := Go.Op.binOp Go.BinOp.add 9 (Go.Operand.tmp 53) (Go.Operand.tmp 55) 9, type := 9, pos := "l14_disk.go:131", after := #[{ on := 3, ground := Go.Ground.data }, { on := 5, ground := Go.Ground.data }], guard := none }
abbrev oF7 : Oper := { dst := some 57, op := Go.Op.move (Go.Operand.tmp 2), type := 3, pos := "l14_disk.go:131", after := #[], guard := none }
abbrev oF8 : Oper := { dst := some 58, op := Go.Op.slice 9 (Go.Operand.tmp 56) none (some (Go.Operand.tmp 57)) none, type := 9, pos := "l14_disk.go:131", after := #[{ on := 6, ground := Go.Ground.data }, { on := 7, ground := Go.Ground.data }], guard := none }
abbrev oF9 : Oper := { dst := some 59, op := Go.Op.build 54 #[(0, Go.Operand.tmp 51), (1, Go.Operand.tmp 58)], type := 54, pos := "l14_disk.go:131", after := #[{ on := 1, ground := Go.Ground.data }, { on := 8, ground := Go.Ground.data }], guard := none }
abbrev oF10 : Oper := { dst := some 60, op := Go.Op.call { callee := Go.Callee.value (Go.Operand.func 56), args := #[Go.Operand.tmp 50, Go.Operand.tmp 59], argTypes := #[26, 54] }, type := 26, pos := "l14_disk.go:131", after := #[{ on := 0, ground := Go.Ground.data }, { on := 9, ground := Go.Ground.data }], guard := none }
abbrev oF11 : Oper := { dst := none, op := Go.Op.store 26 (Go.Operand.tmp 6) (Go.Operand.tmp 60), type := 0, pos := "l14_disk.go:131", after := #[{ on := 10, ground := Go.Ground.data }, { on := 10, ground := Go.Ground.chain }, { on := 0, ground := Go.Ground.phase }, { on := 1, ground := Go.Ground.phase }, { on := 2, ground := Go.Ground.phase }, { on := 3, ground := Go.Ground.phase }, { on := 4, ground := Go.Ground.phase }, { on := 5, ground := Go.Ground.phase }, { on := 6, ground := Go.Ground.phase }, { on := 7, ground := Go.Ground.phase }, { on := 8, ground := Go.Ground.phase }, { on := 9, ground := Go.Ground.phase }, { on := 10, ground := Go.Ground.phase }], guard := none }
abbrev oF12 : Oper := { dst := some 7, op := Go.Op.assign (Go.Operand.const (Go.Value.int Go.IntKind.i64 0)), type := 3, pos := "l14_disk.go:131", after := #[{ on := 11, ground := Go.Ground.chain }, { on := 0, ground := Go.Ground.phase }, { on := 1, ground := Go.Ground.phase }, { on := 2, ground := Go.Ground.phase }, { on := 3, ground := Go.Ground.phase }, { on := 4, ground := Go.Ground.phase }, { on := 5, ground := Go.Ground.phase }, { on := 6, ground := Go.Ground.phase }, { on := 7, ground := Go.Ground.phase }, { on := 8, ground := Go.Ground.phase }, { on := 9, ground := Go.Ground.phase }, { on := 10, ground := Go.Ground.phase }, { on := 11, ground := Go.Ground.phase }], guard := none }
set_option maxRecDepth 100000 in
set_option maxHeartbeats 4000000 in
theorem sDiskCut (w : World) (x : Dx) (nm n : Int) (hr : RdD w x) (hz : sumZ x.ps ≤ 1048576) :
    Calls Try.prog 28 #[.agg #[.int .i64 x.room, .slice x.a x.ps.length x.c], .int .i64 nm, .int .i64 n] w (ToldD (cutD x.room x.ps nm n) w) := by
  have G0 := hide (begunD hr)
  have s2 : ((w.alloc (.cells #[.int .i64 x.room, .slice x.a x.ps.length x.c] 26)).alloc (.cells #[.int .i64 0, .slice none 0 0] 26)).heap.size = w.heap.size + 2 := by simp
  have AT := hide (sAt _ x nm (unhide G0).1.r hz)
  have AI := hide (at_in (room := x.room) (ps := x.ps) (nm := nm))
  have RE := hide (show cutD x.room x.ps nm n = if (atD x.room x.ps nm).2 = 0 then (if 0 ≤ n ∧ n ≤ (bytesAt x.ps (atD x.room x.ps nm).1.toNat).size then ((x.room, putF x.ps (nm, (bytesAt x.ps (atD x.room x.ps nm).1.toNat).extract 0 n.toNat, ByteArray.empty)), 0) else (refD 2 x.room x.ps, 2)) else (refD (atD x.room x.ps nm).2 x.room x.ps, (atD x.room x.ps nm).2) from rfl)
  generalize cutD x.room x.ps nm n = rr at *
  generalize atD x.room x.ps nm = at' at *
  obtain ⟨k0, c⟩ := at'
  clear hr
  go_enter Try.func28, Try.ntmps28
  go_wp2_with fail
  generalize (w.alloc (.cells #[.int .i64 x.room, .slice x.a x.ps.length x.c] 26)).alloc (.cells #[.int .i64 0, .slice none 0 0] 26) = W at *
  refine (unhide AT).mono ?_
  rintro e u ⟨rfl, b1⟩
  have W1 := hide ((unhide G0).1.step b1)
  have R1 := hide ((unhide G0).2.below b1 (by omega))
  have us := b1.size
  clear b1 AT G0
  have c0 := (unhide W1).c0
  have c1 := (unhide W1).c1
  have lt := (unhide W1).lt
  by_cases q : c = 0
  case neg =>
    have E := hide (show rr = (refD c x.room x.ps, c) by rw [unhide RE, if_neg q])
    have qb : (c != 0) = true := by simpa using q
    have qe : (c == 0) = false := by simpa using q
    clear RE AI q
    go_wp2_with fail
    refine wp_region_held_drew (S := (fun _ => True)) (by kernel_rfl) trivial (fun hHeld => ?_)
    refine wpAnyH_take (i := 0) (oi := oE0) (v := .int .i64 c) rfl (by kernel_rfl) (by kernel_rfl) (by kernel_rfl) (fun _ _ _ h => h) (Or.inl ⟨by rfl, fun w hSw => ?_⟩) hHeld ?_
    · (try dsimp only at hSw)
      unfold oE0
      go_simp
    try simp only [oE0, Act.put, List.setIfInBounds_toArray, List.set_cons_zero, List.set_cons_succ]
    refine wpAnyH_take (i := 1) (oi := oE1) (v := .bool false) rfl (by kernel_rfl) (by kernel_rfl) (by kernel_rfl) (fun _ _ _ h => h) (Or.inl ⟨by rfl, fun w hSw => ?_⟩) hHeld ?_
    · (try dsimp only at hSw)
      unfold oE1
      go_simp
    try simp only [oE1, Act.put, List.setIfInBounds_toArray, List.set_cons_zero, List.set_cons_succ]
    refine wpAnyH_take (i := 2) (oi := oE2) (v := .bool false) rfl (by kernel_rfl) (by kernel_rfl) (by kernel_rfl) (fun _ _ _ h => h) (Or.inl ⟨by rfl, fun w hSw => ?_⟩) hHeld ?_
    · (try dsimp only at hSw)
      unfold oE2
      go_simp
    try simp only [oE2, Act.put, List.setIfInBounds_toArray, List.set_cons_zero, List.set_cons_succ]
    refine wpAnyH_take (i := 3) (oi := oE3) (v := undef) rfl (by kernel_rfl) (by kernel_rfl) (by kernel_rfl) (fun _ _ _ h => h) (Or.inr ⟨by rfl, rfl⟩) hHeld ?_
    try simp only [oE3, Act.put, List.setIfInBounds_toArray, List.set_cons_zero, List.set_cons_succ]
    refine wpAnyH_take (i := 4) (oi := oE4) (v := undef) rfl (by kernel_rfl) (by kernel_rfl) (by kernel_rfl) (fun _ _ _ h => h) (Or.inr ⟨by rfl, rfl⟩) hHeld ?_
    try simp only [oE4, Act.put, List.setIfInBounds_toArray, List.set_cons_zero, List.set_cons_succ]
    refine wpAnyH_take (i := 5) (oi := oE5) (v := undef) rfl (by kernel_rfl) (by kernel_rfl) (by kernel_rfl) (fun _ _ _ h => h) (Or.inr ⟨by rfl, rfl⟩) hHeld ?_
    try simp only [oE5, Act.put, List.setIfInBounds_toArray, List.set_cons_zero, List.set_cons_succ]
    refine wpAnyH_take (i := 6) (oi := oE6) (v := undef) rfl (by kernel_rfl) (by kernel_rfl) (by kernel_rfl) (fun _ _ _ h => h) (Or.inr ⟨by rfl, rfl⟩) hHeld ?_
    try simp only [oE6, Act.put, List.setIfInBounds_toArray, List.set_cons_zero, List.set_cons_succ]
    refine wpAnyH_take (i := 7) (oi := oE7) (v := undef) rfl (by kernel_rfl) (by kernel_rfl) (by kernel_rfl) (fun _ _ _ h => h) (Or.inr ⟨by rfl, rfl⟩) hHeld ?_
    try simp only [oE7, Act.put, List.setIfInBounds_toArray, List.set_cons_zero, List.set_cons_succ]
    refine wpAnyH_take (i := 8) (oi := oE8) (v := undef) rfl (by kernel_rfl) (by kernel_rfl) (by kernel_rfl) (fun _ _ _ h => h) (Or.inr ⟨by rfl, rfl⟩) hHeld ?_
    try simp only [oE8, Act.put, List.setIfInBounds_toArray, List.set_cons_zero, List.set_cons_succ]
    refine wpAnyH_take (i := 9) (oi := oE9) (v := undef) rfl (by kernel_rfl) (by kernel_rfl) (by kernel_rfl) (fun _ _ _ h => h) (Or.inr ⟨by rfl, rfl⟩) hHeld ?_
    try simp only [oE9, Act.put, List.setIfInBounds_toArray, List.set_cons_zero, List.set_cons_succ]
    refine wpAnyH_take (i := 10) (oi := oE10) (v := undef) rfl (by kernel_rfl) (by kernel_rfl) (by kernel_rfl) (fun _ _ _ h => h) (Or.inr ⟨by rfl, rfl⟩) hHeld ?_
    try simp only [oE10, Act.put, List.setIfInBounds_toArray, List.set_cons_zero, List.set_cons_succ]
    refine wpAnyH_take (i := 11) (oi := oE11) (v := undef) rfl (by kernel_rfl) (by kernel_rfl) (by kernel_rfl) (fun _ _ _ h => h) (Or.inr ⟨by rfl, rfl⟩) hHeld ?_
    try simp only [oE11, Act.put, List.setIfInBounds_toArray, List.set_cons_zero, List.set_cons_succ]
    refine wpAnyH_take (i := 12) (oi := oE12) (v := undef) rfl (by kernel_rfl) (by kernel_rfl) (by kernel_rfl) (fun _ _ _ h => h) (Or.inr ⟨by rfl, rfl⟩) hHeld ?_
    try simp only [oE12, Act.put, List.setIfInBounds_toArray, List.set_cons_zero, List.set_cons_succ]
    refine wpAnyH_take (i := 13) (oi := oE13) (v := undef) rfl (by kernel_rfl) (by kernel_rfl) (by kernel_rfl) (fun _ _ _ h => h) (Or.inr ⟨by rfl, rfl⟩) hHeld ?_
    try simp only [oE13, Act.put, List.setIfInBounds_toArray, List.set_cons_zero, List.set_cons_succ]
    refine wpAnyH_take (i := 14) (oi := oE14) (v := undef) rfl (by kernel_rfl) (by kernel_rfl) (by kernel_rfl) (fun _ _ _ h => h) (Or.inr ⟨by rfl, rfl⟩) hHeld ?_
    try simp only [oE14, Act.put, List.setIfInBounds_toArray, List.set_cons_zero, List.set_cons_succ]
    refine wpAnyH_take (i := 15) (oi := oE15) (v := undef) rfl (by kernel_rfl) (by kernel_rfl) (by kernel_rfl) (fun _ _ _ h => h) (Or.inr ⟨by rfl, rfl⟩) hHeld ?_
    try simp only [oE15, Act.put, List.setIfInBounds_toArray, List.set_cons_zero, List.set_cons_succ]
    refine wpAnyH_take (i := 16) (oi := oE16) (v := undef) rfl (by kernel_rfl) (by kernel_rfl) (by kernel_rfl) (fun _ _ _ h => h) (Or.inr ⟨by rfl, rfl⟩) hHeld ?_
    try simp only [oE16, Act.put, List.setIfInBounds_toArray, List.set_cons_zero, List.set_cons_succ]
    refine wpAnyH_take (i := 17) (oi := oE17) (v := undef) rfl (by kernel_rfl) (by kernel_rfl) (by kernel_rfl) (fun _ _ _ h => h) (Or.inr ⟨by rfl, rfl⟩) hHeld ?_
    try simp only [oE17, Act.put, List.setIfInBounds_toArray, List.set_cons_zero, List.set_cons_succ]
    refine wpAnyH_take (i := 18) (oi := oE18) (v := undef) rfl (by kernel_rfl) (by kernel_rfl) (by kernel_rfl) (fun _ _ _ h => h) (Or.inr ⟨by rfl, rfl⟩) hHeld ?_
    try simp only [oE18, Act.put, List.setIfInBounds_toArray, List.set_cons_zero, List.set_cons_succ]
    refine wpAnyH_take (i := 19) (oi := oE19) (v := undef) rfl (by kernel_rfl) (by kernel_rfl) (by kernel_rfl) (fun _ _ _ h => h) (Or.inr ⟨by rfl, rfl⟩) hHeld ?_
    try simp only [oE19, Act.put, List.setIfInBounds_toArray, List.set_cons_zero, List.set_cons_succ]
    refine wpAnyH_take (i := 20) (oi := oE20) (v := undef) rfl (by kernel_rfl) (by kernel_rfl) (by kernel_rfl) (fun _ _ _ h => h) (Or.inr ⟨by rfl, rfl⟩) hHeld ?_
    try simp only [oE20, Act.put, List.setIfInBounds_toArray, List.set_cons_zero, List.set_cons_succ]
    refine wpAnyH_take (i := 21) (oi := oE21) (v := .bool false) rfl (by kernel_rfl) (by kernel_rfl) (by kernel_rfl) (fun _ _ _ h => h) (Or.inl ⟨by rfl, fun w hSw => ?_⟩) hHeld ?_
    · (try dsimp only at hSw)
      unfold oE21
      go_simp
    try simp only [oE21, Act.put, List.setIfInBounds_toArray, List.set_cons_zero, List.set_cons_succ]
    refine wpAnyH_done (by kernel_rfl) ?_ _
    have W1 := hide ((unhide W1).drew)
    have R1 := hide (show Bc u.drew w.heap.size (w.heap.size + 1) (.int .i64 0) (.slice none 0 0) from unhide R1)
    have c0 := (unhide W1).c0
    have c1 := (unhide W1).c1
    have lt := (unhide W1).lt
    go_wp2_with fail
    refine (sRefused _ x (c) (unhide W1).r).mono ?_
    rintro e u2 ⟨y, hy, rfl, oy, b2⟩
    have R2 := hide ((unhide R1).below b2 (unhide R1).lt.2)
    have EN := hide (endedD ((unhide W1).b.trans (b2.mono (unhide W1).b.size)) (unhide R2) oy (unhide R1).lt.2)
    have HY := hide hy
    have f0 := (unhide R2).free 0
    have f1 := (unhide R2).free 1
    have r0 := (unhide R2).c0
    have r1 := (unhide R2).c1
    clear b2 oy hy c0 c1 lt W1 R1
    go_wp2
    refine bodyPost_ret (v := .tuple #[.agg #[.int .i64 y.room, .slice y.a y.ps.length y.c], .int .i64 (c)]) (by simp [results, Try.results28, go_sem, r0, r1]) rfl ?_
    rw [unhide E]
    exact ⟨y, unhide HY, rfl, (unhide EN).1, (unhide EN).2⟩
  subst q
  obtain ⟨ok, okn, k, rfl, kl, en⟩ := (unhide AI) rfl
  have RE2 := hide (show rr = if 0 ≤ n ∧ n ≤ (bytesAt x.ps k).size then ((x.room, putF x.ps (nm, (bytesAt x.ps k).extract 0 n.toNat, ByteArray.empty)), 0) else (refD 2 x.room x.ps, 2) by rw [unhide RE, if_pos rfl]; rfl)
  have h22 := ok.2.1
  have kt : (k : Int) < x.ps.length := by omega
  obtain ⟨g, ea, lg, d0, d1, d2⟩ := cells_of (unhide W1).r kl
  have ix := ixF x.c ea kl
  have ES := hide (show bytesAt x.ps k = (elF x.ps k).2.1 ++ (elF x.ps k).2.2 from rfl)
  have NX := sumZ_next kl
  have LE := sumZ_le x.ps (k + 1)
  have s1 : (elF x.ps k).2.1.size + (elF x.ps k).2.2.size ≤ 1048576 := by omega
  clear RE AI ok okn en ea NX LE
  generalize bytesAt x.ps k = bt at *
  generalize (elF x.ps k).1 = z0 at *
  generalize (elF x.ps k).2.1 = z1 at *
  generalize (elF x.ps k).2.2 = z2 at *
  have bz : bt.size = z1.size + z2.size := by rw [unhide ES]; simp
  have RE3 := hide (show rr = if 0 ≤ n ∧ n ≤ ((z1.size : Int) + z2.size) then ((x.room, putF x.ps (nm, (z1 ++ z2).extract 0 n.toNat, ByteArray.empty)), 0) else (refD 2 x.room x.ps, 2) by rw [unhide RE2, bz, unhide ES]; simp)
  clear RE2 bz ES bt
  have wr1 : wrap64 ((z1.size : Int) + z2.size) = (z1.size : Int) + z2.size := by rw [wrap64]; omega
  have wr2 : IntKind.i64.wrap ((z1.size : Int) + z2.size) = (z1.size : Int) + z2.size := by rw [IntKind.wrap_i64]; omega
  obtain ⟨bb, hbb⟩ : ∃ bb, decide (0 ≤ n ∧ n ≤ ((z1.size : Int) + z2.size)) = bb := ⟨_, rfl⟩
  have HBB := hide hbb
  clear hbb
  have K0 : u.cell? ⟨w.heap.size, 1, none⟩ = some (.slice x.a x.ps.length x.c) ∧ u.cell? ⟨g, k * 3 + 1, none⟩ = some (.string z1) ∧ u.cell? ⟨g, k * 3 + 2, none⟩ = some (.string z2) := ⟨c1, d1, d2⟩
  go_wp2_with fail
  refine wp_region_held_drew (S := (fun w' => w'.cell? ⟨w.heap.size, 1, none⟩ = some (.slice x.a x.ps.length x.c) ∧ w'.cell? ⟨g, k * 3 + 1, none⟩ = some (.string z1) ∧ w'.cell? ⟨g, k * 3 + 2, none⟩ = some (.string z2))) (by kernel_rfl) K0 (fun hHeld => ?_)
  refine wpAnyH_take (i := 0) (oi := oE0) (v := .int .i64 0) rfl (by kernel_rfl) (by kernel_rfl) (by kernel_rfl) (fun _ _ _ h => h) (Or.inl ⟨by rfl, fun w hSw => ?_⟩) hHeld ?_
  · (try dsimp only at hSw)
    unfold oE0
    go_simp
  try simp only [oE0, Act.put, List.setIfInBounds_toArray, List.set_cons_zero, List.set_cons_succ]
  refine wpAnyH_take (i := 1) (oi := oE1) (v := .bool true) rfl (by kernel_rfl) (by kernel_rfl) (by kernel_rfl) (fun _ _ _ h => h) (Or.inl ⟨by rfl, fun w hSw => ?_⟩) hHeld ?_
  · (try dsimp only at hSw)
    unfold oE1
    go_simp
  try simp only [oE1, Act.put, List.setIfInBounds_toArray, List.set_cons_zero, List.set_cons_succ]
  refine wpAnyH_take (i := 2) (oi := oE2) (v := .bool true) rfl (by kernel_rfl) (by kernel_rfl) (by kernel_rfl) (fun _ _ _ h => h) (Or.inl ⟨by rfl, fun w hSw => ?_⟩) hHeld ?_
  · (try dsimp only at hSw)
    unfold oE2
    go_simp
  try simp only [oE2, Act.put, List.setIfInBounds_toArray, List.set_cons_zero, List.set_cons_succ]
  refine wpAnyH_take (i := 3) (oi := oE3) (v := .int .i64 n) rfl (by kernel_rfl) (by kernel_rfl) (by kernel_rfl) (fun _ _ _ h => h) (Or.inl ⟨by rfl, fun w hSw => ?_⟩) hHeld ?_
  · (try dsimp only at hSw)
    unfold oE3
    go_simp
  try simp only [oE3, Act.put, List.setIfInBounds_toArray, List.set_cons_zero, List.set_cons_succ]
  refine wpAnyH_take (i := 4) (oi := oE4) (v := .pointer (some ⟨w.heap.size, 1, none⟩)) rfl (by kernel_rfl) (by kernel_rfl) (by kernel_rfl) (fun _ _ _ h => h) (Or.inl ⟨by rfl, fun w hSw => ?_⟩) hHeld ?_
  · (try dsimp only at hSw)
    unfold oE4
    go_simp
  try simp only [oE4, Act.put, List.setIfInBounds_toArray, List.set_cons_zero, List.set_cons_succ]
  refine wpAnyH_take (i := 5) (oi := oE5) (v := .slice x.a x.ps.length x.c) rfl (by kernel_rfl) (by kernel_rfl) (by kernel_rfl) (fun _ _ _ h => h) (Or.inl ⟨by rfl, fun w hSw => ?_⟩) hHeld ?_
  · (try dsimp only at hSw)
    unfold oE5
    go_simp
  try simp only [oE5, Act.put, List.setIfInBounds_toArray, List.set_cons_zero, List.set_cons_succ]
  refine wpAnyH_take (i := 6) (oi := oE6) (v := .int .i64 k) rfl (by kernel_rfl) (by kernel_rfl) (by kernel_rfl) (fun _ _ _ h => h) (Or.inl ⟨by rfl, fun w hSw => ?_⟩) hHeld ?_
  · (try dsimp only at hSw)
    unfold oE6
    go_simp
  try simp only [oE6, Act.put, List.setIfInBounds_toArray, List.set_cons_zero, List.set_cons_succ]
  refine wpAnyH_take (i := 7) (oi := oE7) (v := .pointer (some ⟨g, k * 3, none⟩)) rfl (by kernel_rfl) (by kernel_rfl) (by kernel_rfl) (fun _ _ _ h => h) (Or.inl ⟨by rfl, fun w hSw => ?_⟩) hHeld ?_
  · (try dsimp only at hSw)
    unfold oE7
    go_simp
  try simp only [oE7, Act.put, List.setIfInBounds_toArray, List.set_cons_zero, List.set_cons_succ]
  refine wpAnyH_take (i := 8) (oi := oE8) (v := .pointer (some ⟨g, k * 3 + 1, none⟩)) rfl (by kernel_rfl) (by kernel_rfl) (by kernel_rfl) (fun _ _ _ h => h) (Or.inl ⟨by rfl, fun w hSw => ?_⟩) hHeld ?_
  · (try dsimp only at hSw)
    unfold oE8
    go_simp
  try simp only [oE8, Act.put, List.setIfInBounds_toArray, List.set_cons_zero, List.set_cons_succ]
  refine wpAnyH_take (i := 9) (oi := oE9) (v := .string z1) rfl (by kernel_rfl) (by kernel_rfl) (by kernel_rfl) (fun _ _ _ h => h) (Or.inl ⟨by rfl, fun w hSw => ?_⟩) hHeld ?_
  · (try dsimp only at hSw)
    unfold oE9
    go_simp
  try simp only [oE9, Act.put, List.setIfInBounds_toArray, List.set_cons_zero, List.set_cons_succ]
  refine wpAnyH_take (i := 10) (oi := oE10) (v := .int .i64 z1.size) rfl (by kernel_rfl) (by kernel_rfl) (by kernel_rfl) (fun _ _ _ h => h) (Or.inl ⟨by rfl, fun w hSw => ?_⟩) hHeld ?_
  · (try dsimp only at hSw)
    unfold oE10
    go_simp
  try simp only [oE10, Act.put, List.setIfInBounds_toArray, List.set_cons_zero, List.set_cons_succ]
  refine wpAnyH_take (i := 11) (oi := oE11) (v := .pointer (some ⟨w.heap.size, 1, none⟩)) rfl (by kernel_rfl) (by kernel_rfl) (by kernel_rfl) (fun _ _ _ h => h) (Or.inl ⟨by rfl, fun w hSw => ?_⟩) hHeld ?_
  · (try dsimp only at hSw)
    unfold oE11
    go_simp
  try simp only [oE11, Act.put, List.setIfInBounds_toArray, List.set_cons_zero, List.set_cons_succ]
  refine wpAnyH_take (i := 12) (oi := oE12) (v := .slice x.a x.ps.length x.c) rfl (by kernel_rfl) (by kernel_rfl) (by kernel_rfl) (fun _ _ _ h => h) (Or.inl ⟨by rfl, fun w hSw => ?_⟩) hHeld ?_
  · (try dsimp only at hSw)
    unfold oE12
    go_simp
  try simp only [oE12, Act.put, List.setIfInBounds_toArray, List.set_cons_zero, List.set_cons_succ]
  refine wpAnyH_take (i := 13) (oi := oE13) (v := .int .i64 k) rfl (by kernel_rfl) (by kernel_rfl) (by kernel_rfl) (fun _ _ _ h => h) (Or.inl ⟨by rfl, fun w hSw => ?_⟩) hHeld ?_
  · (try dsimp only at hSw)
    unfold oE13
    go_simp
  try simp only [oE13, Act.put, List.setIfInBounds_toArray, List.set_cons_zero, List.set_cons_succ]
  refine wpAnyH_take (i := 14) (oi := oE14) (v := .pointer (some ⟨g, k * 3, none⟩)) rfl (by kernel_rfl) (by kernel_rfl) (by kernel_rfl) (fun _ _ _ h => h) (Or.inl ⟨by rfl, fun w hSw => ?_⟩) hHeld ?_
  · (try dsimp only at hSw)
    unfold oE14
    go_simp
  try simp only [oE14, Act.put, List.setIfInBounds_toArray, List.set_cons_zero, List.set_cons_succ]
  refine wpAnyH_take (i := 15) (oi := oE15) (v := .pointer (some ⟨g, k * 3 + 2, none⟩)) rfl (by kernel_rfl) (by kernel_rfl) (by kernel_rfl) (fun _ _ _ h => h) (Or.inl ⟨by rfl, fun w hSw => ?_⟩) hHeld ?_
  · (try dsimp only at hSw)
    unfold oE15
    go_simp
  try simp only [oE15, Act.put, List.setIfInBounds_toArray, List.set_cons_zero, List.set_cons_succ]
  refine wpAnyH_take (i := 16) (oi := oE16) (v := .string z2) rfl (by kernel_rfl) (by kernel_rfl) (by kernel_rfl) (fun _ _ _ h => h) (Or.inl ⟨by rfl, fun w hSw => ?_⟩) hHeld ?_
  · (try dsimp only at hSw)
    unfold oE16
    go_simp
  try simp only [oE16, Act.put, List.setIfInBounds_toArray, List.set_cons_zero, List.set_cons_succ]
  refine wpAnyH_take (i := 17) (oi := oE17) (v := .int .i64 z2.size) rfl (by kernel_rfl) (by kernel_rfl) (by kernel_rfl) (fun _ _ _ h => h) (Or.inl ⟨by rfl, fun w hSw => ?_⟩) hHeld ?_
  · (try dsimp only at hSw)
    unfold oE17
    go_simp
  try simp only [oE17, Act.put, List.setIfInBounds_toArray, List.set_cons_zero, List.set_cons_succ]
  refine wpAnyH_take (i := 18) (oi := oE18) (v := .int .i64 ((z1.size : Int) + z2.size)) rfl (by kernel_rfl) (by kernel_rfl) (by kernel_rfl) (fun _ _ _ h => h) (Or.inl ⟨by rfl, fun w hSw => ?_⟩) hHeld ?_
  · (try dsimp only at hSw)
    unfold oE18
    go_simp
  try simp only [oE18, Act.put, List.setIfInBounds_toArray, List.set_cons_zero, List.set_cons_succ]
  refine wpAnyH_ready (rs := [19]) (by kernel_rfl) (by simp) ?_
  refine AllReadyH.cons (o := oE19) rfl (fun K hK => ?_) AllReadyH.nil
  unfold oE19
  go_simp
  go_wp2_with fail
  refine (sInB _ n 0 ((z1.size : Int) + z2.size) bb (unhide HBB)).mono ?_
  rintro e v1 ⟨rfl, rfl⟩
  go_wp2_with fail
  refine hK.out _ _ K0 (fun hHeld => ?_)
  clear hK K
  try simp only [oE19, Act.put, List.setIfInBounds_toArray, List.set_cons_zero, List.set_cons_succ]
  refine wpAnyH_take (i := 20) (oi := oE20) (v := .bool (!bb)) rfl (by kernel_rfl) (by kernel_rfl) (by kernel_rfl) (fun _ _ _ h => h) (Or.inl ⟨by rfl, fun w hSw => ?_⟩) hHeld ?_
  · (try dsimp only at hSw)
    unfold oE20
    go_simp
  try simp only [oE20, Act.put, List.setIfInBounds_toArray, List.set_cons_zero, List.set_cons_succ]
  refine wpAnyH_take (i := 21) (oi := oE21) (v := .bool (!bb)) rfl (by kernel_rfl) (by kernel_rfl) (by kernel_rfl) (fun _ _ _ h => h) (Or.inl ⟨by rfl, fun w hSw => ?_⟩) hHeld ?_
  · (try dsimp only at hSw)
    unfold oE21
    go_simp
  try simp only [oE21, Act.put, List.setIfInBounds_toArray, List.set_cons_zero, List.set_cons_succ]
  refine wpAnyH_done (by kernel_rfl) ?_ _
  have W4 := hide ((unhide W1).drew)
  have R4 := hide (show Bc u.drew w.heap.size (w.heap.size + 1) (.int .i64 0) (.slice none 0 0) from unhide R1)
  have d0' : u.drew.cell? ⟨g, k * 3, none⟩ = some (.int .i64 z0) := d0
  have d1' : u.drew.cell? ⟨g, k * 3 + 1, none⟩ = some (.string z1) := d1
  have d2' : u.drew.cell? ⟨g, k * 3 + 2, none⟩ = some (.string z2) := d2
  clear K0 c0 c1 lt d0 d1 d2 wr1 wr2
  have us2 : u.heap.size = u.drew.heap.size := rfl
  generalize u.drew = v at *
  have W1 := W4
  have R1 := R4
  have c0 := (unhide W1).c0
  have c1 := (unhide W1).c1
  have lt := (unhide W1).lt
  clear W4 R4 us2
  cases bb with
  | false =>
    have E := hide (show rr = (refD 2 x.room x.ps, 2) by rw [unhide RE3, if_neg (by have := unhide HBB; simpa using this)])
    go_wp2_with fail
    refine (sRefused _ x (2) (unhide W1).r).mono ?_
    rintro e u2 ⟨y, hy, rfl, oy, b2⟩
    have R2 := hide ((unhide R1).below b2 (unhide R1).lt.2)
    have EN := hide (endedD ((unhide W1).b.trans (b2.mono (unhide W1).b.size)) (unhide R2) oy (unhide R1).lt.2)
    have HY := hide hy
    have f0 := (unhide R2).free 0
    have f1 := (unhide R2).free 1
    have r0 := (unhide R2).c0
    have r1 := (unhide R2).c1
    clear b2 oy hy c0 c1 lt W1 R1
    go_wp2
    refine bodyPost_ret (v := .tuple #[.agg #[.int .i64 y.room, .slice y.a y.ps.length y.c], .int .i64 (2)]) (by simp [results, Try.results28, go_sem, r0, r1]) rfl ?_
    rw [unhide E]
    exact ⟨y, unhide HY, rfl, (unhide EN).1, (unhide EN).2⟩
  | true =>
    have hn : 0 ≤ n ∧ n ≤ ((z1.size : Int) + z2.size) := by have := unhide HBB; simpa using this
    have E := hide (show rr = ((x.room, putF x.ps (nm, (z1 ++ z2).extract 0 n.toNat, ByteArray.empty)), 0) by rw [unhide RE3, if_pos hn])
    obtain ⟨n0, n1⟩ := hn
    have nz : n ≤ ((z1 ++ z2).size : Int) := by simp; omega
    have s3 : z1.size + z2.size ≤ 9223372036854775807 := by omega
    obtain ⟨V, hV⟩ : ∃ V, Hid (V = v.alloc (.cells #[.int .i64 z0, .string z1, .string z2] 54)) := ⟨_, rfl⟩
    have W3 := hide (show Wd w V x by rw [unhide hV]; exact (unhide W1).step (one_more _ _))
    have R3 := hide (show Bc V w.heap.size (w.heap.size + 1) (.int .i64 0) (.slice none 0 0) by rw [unhide hV]; exact (unhide R1).below (one_more _ _) (unhide R1).lt.2)
    have fb : V.cell? ⟨v.heap.size, 1, none⟩ = some (.string z1) ∧ V.cell? ⟨v.heap.size, 2, none⟩ = some (.string z2) := by rw [unhide hV]; simp
    have vs : v.heap.size < V.heap.size := by rw [unhide hV]; simp
    go_wp2_with fail
    rw [← unhide hV]
    clear hV c0 c1
    obtain ⟨b1, b2⟩ := fb
    have c0 := (unhide W3).c0
    have c1 := (unhide W3).c1
    have v1 := (unhide R1).lt
    have K0 : V.cell? ⟨w.heap.size, 0, none⟩ = some (.int .i64 x.room) ∧ V.cell? ⟨w.heap.size, 1, none⟩ = some (.slice x.a x.ps.length x.c) ∧ V.cell? ⟨v.heap.size, 1, none⟩ = some (.string z1) ∧ V.cell? ⟨v.heap.size, 2, none⟩ = some (.string z2) := ⟨c0, c1, b1, b2⟩
    refine wp_region_held_drew (S := (fun w' => w'.cell? ⟨w.heap.size, 0, none⟩ = some (.int .i64 x.room) ∧ w'.cell? ⟨w.heap.size, 1, none⟩ = some (.slice x.a x.ps.length x.c) ∧ w'.cell? ⟨v.heap.size, 1, none⟩ = some (.string z1) ∧ w'.cell? ⟨v.heap.size, 2, none⟩ = some (.string z2))) (by kernel_rfl) K0 (fun hHeld => ?_)
    refine wpAnyH_take (i := 0) (oi := oF0) (v := .agg #[.int .i64 x.room, .slice x.a x.ps.length x.c]) rfl (by kernel_rfl) (by kernel_rfl) (by kernel_rfl) (fun _ _ _ h => h) (Or.inl ⟨by rfl, fun w hSw => ?_⟩) hHeld ?_
    · (try dsimp only at hSw)
      unfold oF0
      go_simp
    try simp only [oF0, Act.put, List.setIfInBounds_toArray, List.set_cons_zero, List.set_cons_succ]
    refine wpAnyH_take (i := 1) (oi := oF1) (v := .int .i64 nm) rfl (by kernel_rfl) (by kernel_rfl) (by kernel_rfl) (fun _ _ _ h => h) (Or.inl ⟨by rfl, fun w hSw => ?_⟩) hHeld ?_
    · (try dsimp only at hSw)
      unfold oF1
      go_simp
    try simp only [oF1, Act.put, List.setIfInBounds_toArray, List.set_cons_zero, List.set_cons_succ]
    refine wpAnyH_take (i := 2) (oi := oF2) (v := .pointer (some ⟨v.heap.size, 1, none⟩)) rfl (by kernel_rfl) (by kernel_rfl) (by kernel_rfl) (fun _ _ _ h => h) (Or.inl ⟨by rfl, fun w hSw => ?_⟩) hHeld ?_
    · (try dsimp only at hSw)
      unfold oF2
      go_simp
    try simp only [oF2, Act.put, List.setIfInBounds_toArray, List.set_cons_zero, List.set_cons_succ]
    refine wpAnyH_take (i := 3) (oi := oF3) (v := .string z1) rfl (by kernel_rfl) (by kernel_rfl) (by kernel_rfl) (fun _ _ _ h => h) (Or.inl ⟨by rfl, fun w hSw => ?_⟩) hHeld ?_
    · (try dsimp only at hSw)
      unfold oF3
      go_simp
    try simp only [oF3, Act.put, List.setIfInBounds_toArray, List.set_cons_zero, List.set_cons_succ]
    refine wpAnyH_take (i := 4) (oi := oF4) (v := .pointer (some ⟨v.heap.size, 2, none⟩)) rfl (by kernel_rfl) (by kernel_rfl) (by kernel_rfl) (fun _ _ _ h => h) (Or.inl ⟨by rfl, fun w hSw => ?_⟩) hHeld ?_
    · (try dsimp only at hSw)
      unfold oF4
      go_simp
    try simp only [oF4, Act.put, List.setIfInBounds_toArray, List.set_cons_zero, List.set_cons_succ]
    refine wpAnyH_take (i := 5) (oi := oF5) (v := .string z2) rfl (by kernel_rfl) (by kernel_rfl) (by kernel_rfl) (fun _ _ _ h => h) (Or.inl ⟨by rfl, fun w hSw => ?_⟩) hHeld ?_
    · (try dsimp only at hSw)
      unfold oF5
      go_simp
    try simp only [oF5, Act.put, List.setIfInBounds_toArray, List.set_cons_zero, List.set_cons_succ]
    refine wpAnyH_take (i := 6) (oi := oF6) (v := .string (z1 ++ z2)) rfl (by kernel_rfl) (by kernel_rfl) (by kernel_rfl) (fun _ _ _ h => h) (Or.inl ⟨by rfl, fun w hSw => ?_⟩) hHeld ?_
    · (try dsimp only at hSw)
      unfold oF6
      go_simp
    try simp only [oF6, Act.put, List.setIfInBounds_toArray, List.set_cons_zero, List.set_cons_succ]
    refine wpAnyH_take (i := 7) (oi := oF7) (v := .int .i64 n) rfl (by kernel_rfl) (by kernel_rfl) (by kernel_rfl) (fun _ _ _ h => h) (Or.inl ⟨by rfl, fun w hSw => ?_⟩) hHeld ?_
    · (try dsimp only at hSw)
      unfold oF7
      go_simp
    try simp only [oF7, Act.put, List.setIfInBounds_toArray, List.set_cons_zero, List.set_cons_succ]
    refine wpAnyH_take (i := 8) (oi := oF8) (v := .string ((z1 ++ z2).extract 0 n.toNat)) rfl (by kernel_rfl) (by kernel_rfl) (by kernel_rfl) (fun _ _ _ h => h) (Or.inl ⟨by rfl, fun w hSw => ?_⟩) hHeld ?_
    · (try dsimp only at hSw)
      unfold oF8
      go_simp
    try simp only [oF8, Act.put, List.setIfInBounds_toArray, List.set_cons_zero, List.set_cons_succ]
    refine wpAnyH_take (i := 9) (oi := oF9) (v := .agg #[.int .i64 nm, .string ((z1 ++ z2).extract 0 n.toNat), .string ⟨#[]⟩]) rfl (by kernel_rfl) (by kernel_rfl) (by kernel_rfl) (fun _ _ _ h => h) (Or.inl ⟨by rfl, fun w hSw => ?_⟩) hHeld ?_
    · (try dsimp only at hSw)
      unfold oF9
      go_simp
    try simp only [oF9, Act.put, List.setIfInBounds_toArray, List.set_cons_zero, List.set_cons_succ]
    refine wpAnyH_ready (rs := [10]) (by kernel_rfl) (by simp) ?_
    refine AllReadyH.cons (o := oF10) rfl (fun K hK => ?_) AllReadyH.nil
    unfold oF10
    go_simp
    go_wp2_with fail
    refine (sPut V.drew x nm ((z1 ++ z2).extract 0 n.toNat) ⟨#[]⟩ (unhide W3).drew.r h22).mono ?_
    rintro e v2 ⟨y2, yr2, yp2, rfl, oy2, bbb⟩
    have bb2 : Below V.heap.size V v2 := ⟨bbb.os, bbb.tape, bbb.output, bbb.size, bbb.block⟩
    have W5 := hide ((unhide W3).step bb2)
    have R5 := hide ((unhide R3).below bb2 (unhide R3).lt.2)
    have vs2 := bb2.size
    have K2 : v2.cell? ⟨w.heap.size, 0, none⟩ = some (.int .i64 x.room) ∧ v2.cell? ⟨w.heap.size, 1, none⟩ = some (.slice x.a x.ps.length x.c) ∧ v2.cell? ⟨v.heap.size, 1, none⟩ = some (.string z1) ∧ v2.cell? ⟨v.heap.size, 2, none⟩ = some (.string z2) := ⟨(unhide W5).c0, (unhide W5).c1, (bb2.cell (p := ⟨v.heap.size, 1, none⟩) vs).trans b1, (bb2.cell (p := ⟨v.heap.size, 2, none⟩) vs).trans b2⟩
    have EN := hide (endedD (unhide W5).b (unhide R5) oy2 (show w.heap.size + 1 < V.drew.heap.size from (unhide R3).lt.2))
    have HY2 := hide (show (y2.room, y2.ps) = (x.room, putF x.ps (nm, (z1 ++ z2).extract 0 n.toNat, ByteArray.empty)) by rw [yr2, yp2]; rfl)
    have f0 := (unhide R5).free 0
    have f1 := (unhide R5).free 1
    have r0 := (unhide R5).c0
    have r1 := (unhide R5).c1
    have wl := (unhide W5).lt
    have st := grow_grow ((unhide R5).set0 (.int .i64 y2.room)).2 (bc_set1 ((unhide R5).set0 (.int .i64 y2.room)).1 (.slice y2.a y2.ps.length y2.c)).2
    have K3 : ((v2.setCell ⟨w.heap.size + 1, 0, none⟩ (.int .i64 y2.room)).setCell ⟨w.heap.size + 1, 1, none⟩ (.slice y2.a y2.ps.length y2.c)).cell? ⟨w.heap.size, 0, none⟩ = some (.int .i64 x.room) ∧ ((v2.setCell ⟨w.heap.size + 1, 0, none⟩ (.int .i64 y2.room)).setCell ⟨w.heap.size + 1, 1, none⟩ (.slice y2.a y2.ps.length y2.c)).cell? ⟨w.heap.size, 1, none⟩ = some (.slice x.a x.ps.length x.c) ∧ ((v2.setCell ⟨w.heap.size + 1, 0, none⟩ (.int .i64 y2.room)).setCell ⟨w.heap.size + 1, 1, none⟩ (.slice y2.a y2.ps.length y2.c)).cell? ⟨v.heap.size, 1, none⟩ = some (.string z1) ∧ ((v2.setCell ⟨w.heap.size + 1, 0, none⟩ (.int .i64 y2.room)).setCell ⟨w.heap.size + 1, 1, none⟩ (.slice y2.a y2.ps.length y2.c)).cell? ⟨v.heap.size, 2, none⟩ = some (.string z2) := ⟨(kcell st 0 wl (by omega)).trans K2.1, (kcell st 1 wl (by omega)).trans K2.2.1, (kcell st 1 (g := v.heap.size) (by omega) (by omega)).trans K2.2.2.1, (kcell st 2 (g := v.heap.size) (by omega) (by omega)).trans K2.2.2.2⟩
    clear bb2 bbb oy2 yr2 yp2
    go_wp2_with fail
    refine hK.out _ _ K2 (fun hHeld => ?_)
    clear hK K
    try simp only [oF10, Act.put, List.setIfInBounds_toArray, List.set_cons_zero, List.set_cons_succ]
    refine wpAnyH_ready (rs := [11]) (by kernel_rfl) (by simp) ?_
    refine AllReadyH.cons (o := oF11) rfl (fun K hK => ?_) AllReadyH.nil
    unfold oF11
    go_simp
    refine hK.out _ _ K3 (fun hHeld => ?_)
    clear hK K
    try simp only [oF11, Act.put, List.setIfInBounds_toArray, List.set_cons_zero, List.set_cons_succ]
    refine wpAnyH_take (i := 12) (oi := oF12) (v := .int .i64 0) rfl (by kernel_rfl) (by kernel_rfl) (by kernel_rfl) (fun _ _ _ h => h) (Or.inl ⟨by rfl, fun w hSw => ?_⟩) hHeld ?_
    · (try dsimp only at hSw)
      unfold oF12
      go_simp
    try simp only [oF12, Act.put, List.setIfInBounds_toArray, List.set_cons_zero, List.set_cons_succ]
    refine wpAnyH_done (by kernel_rfl) ?_ _
    clear K0 K2 K3 st
    go_wp2
    refine bodyPost_ret (v := .tuple #[.agg #[.int .i64 y2.room, .slice y2.a y2.ps.length y2.c], .int .i64 0]) (by simp [results, Try.results28, go_sem, r0, r1]) rfl ?_
    rw [unhide E]
    exact ⟨y2, unhide HY2, rfl, (unhide EN).1, (unhide EN).2⟩
end Go.Proofs.Ytcajdiopgaoicaa.SCut14
namespace Go.Proofs.Ytcajdiopgaoicaa.SDrop14
open Go.ChangeShapes Go.WideShapes Go.ChangeAt Go.RowKit Fil14 DiskH14 DkH14 SDk14 SOk14 SRd14 App14 SLess14 SCopy14 SRef14 SCom14
/-- What DiskDrop answers. -/
def dropD (room : Int) (ps : List TF) (nm : Int) : (Int × List TF) × Int := if (atD room ps nm).2 = 0 then ((room, lessN ps (atD room ps nm).1 ps.length), 0) else (refD (atD room ps nm).2 room ps, (atD room ps nm).2)
set_option maxRecDepth 100000 in
set_option maxHeartbeats 4000000 in
theorem sDiskDrop (w : World) (x : Dx) (nm : Int) (hr : RdD w x) (hz : sumZ x.ps ≤ 1048576) :
    Calls Try.prog 84 #[.agg #[.int .i64 x.room, .slice x.a x.ps.length x.c], .int .i64 nm] w (ToldD (dropD x.room x.ps nm) w) := by
  have G0 := hide (begunD hr)
  have s2 : ((w.alloc (.cells #[.int .i64 x.room, .slice x.a x.ps.length x.c] 26)).alloc (.cells #[.int .i64 0, .slice none 0 0] 26)).heap.size = w.heap.size + 2 := by simp
  have AT := hide (sAt _ x nm (unhide G0).1.r hz)
  have AI := hide (at_in (room := x.room) (ps := x.ps) (nm := nm))
  have RE := hide (show dropD x.room x.ps nm = if (atD x.room x.ps nm).2 = 0 then ((x.room, lessN x.ps (atD x.room x.ps nm).1 x.ps.length), 0) else (refD (atD x.room x.ps nm).2 x.room x.ps, (atD x.room x.ps nm).2) from rfl)
  generalize dropD x.room x.ps nm = rr at *
  generalize atD x.room x.ps nm = at' at *
  obtain ⟨k0, c⟩ := at'
  clear hr
  go_enter Try.func84, Try.ntmps84
  go_wp2_with fail
  generalize (w.alloc (.cells #[.int .i64 x.room, .slice x.a x.ps.length x.c] 26)).alloc (.cells #[.int .i64 0, .slice none 0 0] 26) = W at *
  refine (unhide AT).mono ?_
  rintro e u ⟨rfl, b1⟩
  have W1 := hide ((unhide G0).1.step b1)
  have R1 := hide ((unhide G0).2.below b1 (by omega))
  have us := b1.size
  clear b1 AT G0
  have c0 := (unhide W1).c0
  have c1 := (unhide W1).c1
  have lt := (unhide W1).lt
  by_cases q : c = 0
  case neg =>
    have E := hide (show rr = (refD c x.room x.ps, c) by rw [unhide RE, if_neg q])
    have qb : (c != 0) = true := by simpa using q
    clear RE AI q
    go_wp2_with fail
    refine (sRefused u x c (unhide W1).r).mono ?_
    rintro e u2 ⟨y, hy, rfl, oy, b2⟩
    have R2 := hide ((unhide R1).below b2 (unhide R1).lt.2)
    have EN := hide (endedD ((unhide W1).b.trans (b2.mono (unhide W1).b.size)) (unhide R2) oy (by omega))
    have HY := hide hy
    have f0 := (unhide R2).free 0
    have f1 := (unhide R2).free 1
    have r0 := (unhide R2).c0
    have r1 := (unhide R2).c1
    clear b2 oy hy c0 c1 lt W1 R1
    go_wp2
    refine bodyPost_ret (v := .tuple #[.agg #[.int .i64 y.room, .slice y.a y.ps.length y.c], .int .i64 c]) (by simp [results, Try.results84, go_sem, r0, r1]) rfl ?_
    rw [unhide E]
    exact ⟨y, unhide HY, rfl, (unhide EN).1, (unhide EN).2⟩
  subst q
  obtain ⟨ok, okn, k, rfl, kl, en⟩ := (unhide AI) rfl
  have E := hide (show rr = ((x.room, lessN x.ps k x.ps.length), 0) by rw [unhide RE, if_pos rfl])
  clear RE AI ok okn en
  go_wp2_with fail
  refine (sLess u x k (unhide W1).r).mono ?_
  rintro e u2 ⟨y, hy0, hy, rfl, oy, b2⟩
  have R2 := hide ((unhide R1).below b2 (unhide R1).lt.2)
  have EN := hide (endedD ((unhide W1).b.trans (b2.mono (unhide W1).b.size)) (unhide R2) oy (by omega))
  have HY := hide (show (y.room, y.ps) = (x.room, lessN x.ps k x.ps.length) by rw [hy0, hy])
  have f0 := (unhide R2).free 0
  have f1 := (unhide R2).free 1
  have r0 := (unhide R2).c0
  have r1 := (unhide R2).c1
  clear b2 oy hy hy0 c0 c1 lt W1 R1
  go_wp2
  refine bodyPost_ret (v := .tuple #[.agg #[.int .i64 y.room, .slice y.a y.ps.length y.c], .int .i64 0]) (by simp [results, Try.results84, go_sem, r0, r1]) rfl ?_
  rw [unhide E]
  exact ⟨y, unhide HY, rfl, (unhide EN).1, (unhide EN).2⟩
end Go.Proofs.Ytcajdiopgaoicaa.SDrop14
namespace Go.Proofs.Ytcajdiopgaoicaa.SCrash14
open Go.ChangeShapes Go.WideShapes Go.ChangeAt Go.RowKit Fil14 DiskH14 DkH14 SDk14 SOk14 SRd14 App14 SLess14 SCopy14 SRef14 SCom14 SPut14
open DkH14 (row_step)
/-- What is left of a file behind a crash. -/
def crashF (keep : Int) (p : TF) : TF := (p.1, p.2.1 ++ p.2.2.extract 0 (min (max keep 0) p.2.2.size).toNat, ByteArray.empty)
/-- What DiskCrash answers. -/
noncomputable def crashD (room : Int) (ps : List TF) (keep : Int) : Int × List TF := @ite _ (OkD room ps) (Classical.propDecidable _) (room, ps.map (crashF keep)) (0, [])
theorem sMax (w : World) (a b m : Int) (h : max a b = m) : Calls Try.prog 80 #[.int .i64 a, .int .i64 b] w fun e w' => e = .returned (.int .i64 m) ∧ w' = w := by
  by_cases q : a > b
  · have : m = a := by omega
    subst this
    clear h
    go_enter Try.func80, Try.ntmps80
    go_wp2
    go_ret
    exact ⟨rfl, rfl⟩
  · have : m = b := by omega
    subst this
    clear h
    go_enter Try.func80, Try.ntmps80
    go_wp2
    go_ret
    exact ⟨rfl, rfl⟩
theorem sMin (w : World) (a b m : Int) (h : min a b = m) : Calls Try.prog 79 #[.int .i64 a, .int .i64 b] w fun e w' => e = .returned (.int .i64 m) ∧ w' = w := by
  by_cases q : a < b
  · have : m = a := by omega
    subst this
    clear h
    go_enter Try.func79, Try.ntmps79
    go_wp2
    go_ret
    exact ⟨rfl, rfl⟩
  · have : m = b := by omega
    subst this
    clear h
    go_enter Try.func79, Try.ntmps79
    go_wp2
    go_ret
    exact ⟨rfl, rfl⟩
abbrev oA0 : Oper := { dst := some 28, op := Go.Op.move (Go.Operand.tmp 1), type := 3, pos := "l14_disk.go:162", after := #[], guard := none }
abbrev oA1 : Oper := { dst := some 29, op := Go.Op.call { callee := Go.Callee.value (Go.Operand.func 80), args := #[Go.Operand.tmp 28, Go.Operand.const (Go.Value.int Go.IntKind.i64 0)], argTypes := #[3, 3] }, type := 3, pos := "l14_disk.go:162", after := #[{ on := 0, ground := Go.Ground.data }], guard := none }
abbrev oA2 : Oper := { dst := some 30, op := Go.Op.fieldAddr 54 (Go.Operand.tmp 7) 2, type := 0, pos := "l14_disk.go:162", after := #[], guard := none }
abbrev oA3 : Oper := { dst := some 31, op := Go.Op.load 9 (Go.Operand.tmp 30), type := 9, pos := "l14_disk.go:162", after := #[{ on := 2, ground := Go.Ground.data }], guard := none }
abbrev oA4 : Oper := { dst := some 32, op := Go.Op.call { callee := Go.Callee.builtin Go.Builtin.len, args := #[Go.Operand.tmp 31], argTypes := #[9] }, type := 3, pos := "l14_disk.go:162", after := #[{ on := 3, ground := Go.Ground.data }], guard := none }
abbrev oA5 : Oper := { dst := some 33, op := Go.Op.call { callee := Go.Callee.value (Go.Operand.func 79), args := #[Go.Operand.tmp 29, Go.Operand.tmp 32], argTypes := #[3, 3] }, type := 3, pos := "l14_disk.go:162", after := #[{ on := 1, ground := Go.Ground.data }, { on := 4, ground := Go.Ground.data }, { on := 1, ground := Go.Ground.chain }], guard := none }
abbrev oA6 : Oper := { dst := some 8, op := Go.Op.assign (Go.Operand.tmp 33), type := 3, pos := "l14_disk.go:162", after := #[{ on := 5, ground := Go.Ground.data }, { on := 5, ground := Go.Ground.chain }, { on := 0, ground := Go.Ground.phase }, { on := 1, ground := Go.Ground.phase }, { on := 2, ground := Go.Ground.phase }, { on := 3, ground := Go.Ground.phase }, { on := 4, ground := Go.Ground.phase }, { on := 5, ground := Go.Ground.phase }], guard := none }
abbrev oB0 : Oper := { dst := some 34, op := Go.Op.fieldAddr 26 (Go.Operand.tmp 5) 1, type := 0, pos := "l14_disk.go:163", after := #[], guard := none }
abbrev oB1 : Oper := { dst := some 35, op := Go.Op.load 24 (Go.Operand.tmp 34), type := 24, pos := "l14_disk.go:163", after := #[{ on := 0, ground := Go.Ground.data }], guard := none }
abbrev oB2 : Oper := { dst := some 36, op := Go.Op.fieldAddr 54 (Go.Operand.tmp 7) 0, type := 0, pos := "l14_disk.go:163", after := #[], guard := none }
abbrev oB3 : Oper := { dst := some 37, op := Go.Op.load 3 (Go.Operand.tmp 36), type := 3, pos := "l14_disk.go:163", after := #[{ on := 2, ground := Go.Ground.data }], guard := none }
abbrev oB4 : Oper := { dst := some 38, op := Go.Op.fieldAddr 54 (Go.Operand.tmp 7) 1, type := 0, pos := "l14_disk.go:163", after := #[], guard := none }
abbrev oB5 : Oper := { dst := some 39, op := Go.Op.load 9 (Go.Operand.tmp 38), type := 9, pos := "l14_disk.go:163", after := #[{ on := 4, ground := Go.Ground.data }], guard := none }
abbrev oB6 : Oper := { dst := some 40, op := Go.Op.fieldAddr 54 (Go.Operand.tmp 7) 2, type := 0, pos := "l14_disk.go:163", after := #[], guard := none }
abbrev oB7 : Oper := { dst := some 41, op := Go.Op.load 9 (Go.Operand.tmp 40), type := 9, pos := "l14_disk.go:163", after := #[{ on := 6, ground := Go.Ground.data }], guard := none }
abbrev oB8 : Oper := { dst := some 42, op := Go.Op.move (Go.Operand.tmp 8), type := 3, pos := "l14_disk.go:163", after := #[], guard := none }
abbrev oB9 : Oper := { dst := some 43, op := Go.Op.slice 9 (Go.Operand.tmp 41) none (some (Go.Operand.tmp 42)) none, type := 9, pos := "l14_disk.go:163", after := #[{ on := 7, ground := Go.Ground.data }, { on := 8, ground := Go.Ground.data }], guard := none }
abbrev oB10 : Oper := { dst := some 44, op := Go.Op.binOp Go.BinOp.add 9 (Go.Operand.tmp 39) (Go.Operand.tmp 43) 9, type := 9, pos := "l14_disk.go:163", after := #[{ on := 5, ground := Go.Ground.data }, { on := 9, ground := Go.Ground.data }], guard := none }
abbrev oB11 : Oper := { dst := some 45, op := Go.Op.build 54 #[(0, Go.Operand.tmp 37), (1, Go.Operand.tmp 44)], type := 54, pos := "l14_disk.go:163", after := #[{ on := 3, ground := Go.Ground.data }, { on := 10, ground := Go.Ground.data }], guard := none }
abbrev oB12 : Oper := { dst := some 46, op := Go.Op.buildSlice 24 1 #[(0, Go.Operand.tmp 45)], type := 24, pos := "l14_disk.go:163", after := #[{ on := 11, ground := Go.Ground.data }], guard := none }
abbrev oB13 : Oper := { dst := some 47, op := Go.Op.call { callee := Go.Callee.builtin Go.Builtin.append, args := #[Go.Operand.tmp 35, Go.Operand.tmp 46], argTypes := #[24, 24] }, type := 24, pos := "l14_disk.go:163", after := #[{ on := 1, ground := Go.Ground.data }, { on := 12, ground := Go.Ground.data }], guard := none }
abbrev oB14 : Oper := { dst := some 48, op := Go.Op.fieldAddr 26 (Go.Operand.tmp 5) 1, type := 0, pos := "l14_disk.go:163", after := #[{ on := 0, ground := Go.Ground.phase }, { on := 1, ground := Go.Ground.phase }, { on := 2, ground := Go.Ground.phase }, { on := 3, ground := Go.Ground.phase }, { on := 4, ground := Go.Ground.phase }, { on := 5, ground := Go.Ground.phase }, { on := 6, ground := Go.Ground.phase }, { on := 7, ground := Go.Ground.phase }, { on := 8, ground := Go.Ground.phase }, { on := 9, ground := Go.Ground.phase }, { on := 10, ground := Go.Ground.phase }, { on := 11, ground := Go.Ground.phase }, { on := 12, ground := Go.Ground.phase }, { on := 13, ground := Go.Ground.phase }], guard := none }
abbrev oB15 : Oper := { dst := none, op := Go.Op.store 24 (Go.Operand.tmp 48) (Go.Operand.tmp 47), type := 0, pos := "l14_disk.go:163", after := #[{ on := 14, ground := Go.Ground.data }, { on := 13, ground := Go.Ground.data }, { on := 13, ground := Go.Ground.chain }, { on := 0, ground := Go.Ground.phase }, { on := 1, ground := Go.Ground.phase }, { on := 2, ground := Go.Ground.phase }, { on := 3, ground := Go.Ground.phase }, { on := 4, ground := Go.Ground.phase }, { on := 5, ground := Go.Ground.phase }, { on := 6, ground := Go.Ground.phase }, { on := 7, ground := Go.Ground.phase }, { on := 8, ground := Go.Ground.phase }, { on := 9, ground := Go.Ground.phase }, { on := 10, ground := Go.Ground.phase }, { on := 11, ground := Go.Ground.phase }, { on := 12, ground := Go.Ground.phase }, { on := 13, ground := Go.Ground.phase }], guard := none }
set_option maxRecDepth 100000 in
set_option maxHeartbeats 4000000 in
theorem sDiskCrash (w : World) (x : Dx) (keep : Int) (hr : RdD w x) (hz : sumZ x.ps ≤ 1048576) :
    Calls Try.prog 67 #[.agg #[.int .i64 x.room, .slice x.a x.ps.length x.c], .int .i64 keep] w fun e w' => ∃ y : Dx, (y.room, y.ps) = crashD x.room x.ps keep ∧ e = .returned (.agg #[.int .i64 y.room, .slice y.a y.ps.length y.c]) ∧ OwD w' w.heap.size y ∧ Below w.heap.size w w' := by
  have G0 := hide (begunD hr)
  have s2 : ((w.alloc (.cells #[.int .i64 x.room, .slice x.a x.ps.length x.c] 26)).alloc (.cells #[.int .i64 0, .slice none 0 0] 26)).heap.size = w.heap.size + 2 := by simp
  have OK0 := hide (sDiskOk _ x (unhide G0).1.r hz)
  have RG := hide (fun g e => (hr.r g e).1)
  clear hr
  by_cases q : OkD x.room x.ps
  case neg =>
    have E := hide (show crashD x.room x.ps keep = (0, []) from if_neg q)
    have OK := hide (show Calls Try.prog 17 #[.agg #[.int .i64 x.room, .slice x.a x.ps.length x.c]] _ fun e w' => e = .returned (.bool false) ∧ Below _ _ w' by have := unhide OK0; rw [decide_eq_false q] at this; exact this)
    generalize crashD x.room x.ps keep = rr at *
    clear OK0 q
    go_enter Try.func67, Try.ntmps67
    go_wp2_with fail
    refine (unhide OK).mono ?_
    rintro e u ⟨rfl, b1⟩
    have R2 := hide ((unhide G0).2.below b1 (by omega))
    have EN := hide (endedD (y := ⟨0, none, 0, []⟩) (base0 := w.heap.size + 2) (((unhide G0).1.step b1).b) (unhide R2) ⟨rfl, .inl ⟨rfl, rfl⟩⟩ (by omega))
    have f0 := (unhide R2).free 0
    have f1 := (unhide R2).free 1
    have r0 := (unhide R2).c0
    have r1 := (unhide R2).c1
    clear b1
    go_wp2
    refine bodyPost_ret (v := .agg #[.int .i64 0, .slice none 0 0]) (by simp [results, Try.results67, go_sem, r0, r1]) rfl ⟨⟨0, none, 0, []⟩, (unhide E).symm, rfl, (unhide EN).1, (unhide EN).2⟩
  have E := hide (show crashD x.room x.ps keep = (x.room, x.ps.map (crashF keep)) from if_pos q)
  have OK := hide (show Calls Try.prog 17 #[.agg #[.int .i64 x.room, .slice x.a x.ps.length x.c]] _ fun e w' => e = .returned (.bool true) ∧ Below _ _ w' by have := unhide OK0; rw [decide_eq_true q] at this; exact this)
  have h22 := q.2.1
  generalize crashD x.room x.ps keep = rr at *
  clear OK0 q
  go_enter Try.func67, Try.ntmps67
  go_wp2_with fail
  refine (unhide OK).mono ?_
  rintro e u ⟨rfl, b1⟩
  have W1 := hide ((unhide G0).1.step b1)
  have R1 := hide ((unhide G0).2.below b1 (by omega))
  have us := b1.size
  clear b1 G0 OK
  have W3 := hide ((unhide W1).step (one_more u (.cells #[.int .i64 x.room, .slice none 0 0] 26)))
  have R3 := hide ((unhide R1).below (one_more u (.cells #[.int .i64 x.room, .slice none 0 0] 26)) (unhide R1).lt.2)
  have P0 := hide (show Pt w.heap.size u.heap.size (u.alloc (.cells #[.int .i64 x.room, .slice none 0 0] 26)) (u.alloc (.cells #[.int .i64 x.room, .slice none 0 0] 26)) x.room ((x.ps.take 0).map (crashF keep)) none 0 0 from ⟨World.grownBy.refl _ _, Bc.made _ _ (by omega) rfl, ⟨rfl, .inl ⟨rfl, rfl⟩⟩⟩)
  have s3 : (u.alloc (.cells #[.int .i64 x.room, .slice none 0 0] 26)).heap.size = u.heap.size + 1 := by simp
  have c0 := (unhide W1).c0
  have c1 := (unhide W1).c1
  have lt := (unhide W1).lt
  go_wp2
  generalize u.alloc (.cells #[.int .i64 x.room, .slice none 0 0] 26) = W at *
  clear c0 c1
  go_loopw [6, 7, 8] (fun i _ _ wr => ∃ (m c : Nat) (a : Option Addr), i = .int .i64 m ∧ m ≤ x.ps.length ∧ Hid (Pt w.heap.size u.heap.size W wr x.room ((x.ps.take m).map (crashF keep)) a m c)) (fun i _ _ _ => x.ps.length - (intOf i).toNat)
  case atStart => exact ⟨0, 0, none, rfl, by omega, P0⟩
  case round =>
    clear P0
    obtain ⟨m, c, a, rfl, hm, PT⟩ := hrel
    have gs := (unhide PT).gr.size
    have c1 := (kcell (unhide PT).gr 1 (show w.heap.size < W.heap.size from by omega) (by omega)).trans (unhide W3).c1
    by_cases t : m < x.ps.length
    · have kt : (m : Int) < x.ps.length := by omega
      have TK := hide (show (x.ps.take (m + 1)).map (crashF keep) = (x.ps.take m).map (crashF keep) ++ [crashF keep (elF x.ps m)] from by rw [List.take_succ_eq_append_getElem t, List.map_append]; simp [List.getD, t])
      obtain ⟨g, ea, lg, e0, e1, e2⟩ := cells_of (unhide W3).r t
      have lg0 := (unhide RG) g ea
      have gn : g ≠ u.heap.size := by omega
      have d0 := (kcell (unhide PT).gr (m * 3) lg gn).trans e0
      have d1 := (kcell (unhide PT).gr (m * 3 + 1) lg gn).trans e1
      have d2 := (kcell (unhide PT).gr (m * 3 + 2) lg gn).trans e2
      have ix := ixF x.c ea t
      have NX := sumZ_next t
      have LE := sumZ_le x.ps (m + 1)
      have sz : (elF x.ps m).2.1.size + (elF x.ps m).2.2.size ≤ 1048576 := by omega
      generalize hp : elF x.ps m = p at *
      obtain ⟨z0, z1, z2⟩ := p
      simp only at d0 d1 d2 sz
      obtain ⟨km, hkm⟩ : ∃ km, max keep 0 = km := ⟨_, rfl⟩
      obtain ⟨kn, hkn⟩ : ∃ kn : Nat, min km (z2.size : Int) = kn := ⟨(min km (z2.size : Int)).toNat, by omega⟩
      have HKM := hide hkm
      have HKK := hide hkn
      have kz : (kn : Int) ≤ z2.size := by omega
      have TE : crashF keep (z0, z1, z2) = (z0, z1 ++ z2.extract 0 kn, ByteArray.empty) := by
        unfold crashF
        simp only [hkm, hkn, Int.toNat_natCast]
      rw [TE] at TK
      have sx : z1.size + (z2.extract 0 kn).size ≤ 1048576 := by
        have : (z2.extract 0 kn).size ≤ z2.size := by simp; omega
        omega
      have sm : z1.size + min kn z2.size ≤ 9223372036854775807 := by omega
      clear e0 e1 e2 ea hp NX LE TE hkm hkn
      have K8 : (wr.alloc (.cells #[.int .i64 z0, .string z1, .string z2] 54)).cell? ⟨wr.heap.size, 0, none⟩ = some (.int .i64 z0) ∧ (wr.alloc (.cells #[.int .i64 z0, .string z1, .string z2] 54)).cell? ⟨wr.heap.size, 1, none⟩ = some (.string z1) ∧ (wr.alloc (.cells #[.int .i64 z0, .string z1, .string z2] 54)).cell? ⟨wr.heap.size, 2, none⟩ = some (.string z2) := by simp
      obtain ⟨V, hV⟩ : ∃ V, Hid (V = wr.alloc (.cells #[.int .i64 z0, .string z1, .string z2] 54)) := ⟨_, rfl⟩
      have vL := hide (show wr.heap.size < V.heap.size by rw [unhide hV]; simp)
      have bV := hide (show Below wr.heap.size wr V by rw [unhide hV]; exact one_more _ _)
      rw [← unhide hV] at K8
      go_wp2_with fail
      rw [← unhide hV]
      clear hV
      refine wp_region_held_drew (S := (fun w' => w'.cell? ⟨wr.heap.size, 0, none⟩ = some (.int .i64 z0) ∧ w'.cell? ⟨wr.heap.size, 1, none⟩ = some (.string z1) ∧ w'.cell? ⟨wr.heap.size, 2, none⟩ = some (.string z2))) (by kernel_rfl) K8 (fun hHeld => ?_)
      refine wpAnyH_take (i := 0) (oi := oA0) (v := .int .i64 keep) rfl (by kernel_rfl) (by kernel_rfl) (by kernel_rfl) (fun _ _ _ h => h) (Or.inl ⟨by rfl, fun w hSw => ?_⟩) hHeld ?_
      · (try dsimp only at hSw)
        unfold oA0
        go_simp
      try simp only [oA0, Act.put, List.setIfInBounds_toArray, List.set_cons_zero, List.set_cons_succ]
      refine wpAnyH_take (i := 2) (oi := oA2) (v := .pointer (some ⟨wr.heap.size, 2, none⟩)) rfl (by kernel_rfl) (by kernel_rfl) (by kernel_rfl) (fun _ _ _ h => h) (Or.inl ⟨by rfl, fun w hSw => ?_⟩) hHeld ?_
      · (try dsimp only at hSw)
        unfold oA2
        go_simp
      try simp only [oA2, Act.put, List.setIfInBounds_toArray, List.set_cons_zero, List.set_cons_succ]
      refine wpAnyH_take (i := 3) (oi := oA3) (v := .string z2) rfl (by kernel_rfl) (by kernel_rfl) (by kernel_rfl) (fun _ _ _ h => h) (Or.inl ⟨by rfl, fun w hSw => ?_⟩) hHeld ?_
      · (try dsimp only at hSw)
        unfold oA3
        go_simp
      try simp only [oA3, Act.put, List.setIfInBounds_toArray, List.set_cons_zero, List.set_cons_succ]
      refine wpAnyH_take (i := 4) (oi := oA4) (v := .int .i64 z2.size) rfl (by kernel_rfl) (by kernel_rfl) (by kernel_rfl) (fun _ _ _ h => h) (Or.inl ⟨by rfl, fun w hSw => ?_⟩) hHeld ?_
      · (try dsimp only at hSw)
        unfold oA4
        go_simp
      try simp only [oA4, Act.put, List.setIfInBounds_toArray, List.set_cons_zero, List.set_cons_succ]
      refine wpAnyH_ready (rs := [1]) (by kernel_rfl) (by simp) ?_
      refine AllReadyH.cons (o := oA1) rfl (fun K hK => ?_) AllReadyH.nil
      unfold oA1
      go_simp
      go_wp2_with fail
      refine (sMax _ keep 0 km (unhide HKM)).mono ?_
      rintro e v1 ⟨rfl, rfl⟩
      go_wp2_with fail
      refine hK.out _ _ K8 (fun hHeld => ?_)
      clear hK K
      try simp only [oA1, Act.put, List.setIfInBounds_toArray, List.set_cons_zero, List.set_cons_succ]
      refine wpAnyH_ready (rs := [5]) (by kernel_rfl) (by simp) ?_
      refine AllReadyH.cons (o := oA5) rfl (fun K hK => ?_) AllReadyH.nil
      unfold oA5
      go_simp
      go_wp2_with fail
      refine (sMin _ km z2.size kn (unhide HKK)).mono ?_
      rintro e v2 ⟨rfl, rfl⟩
      go_wp2_with fail
      refine hK.out _ _ K8 (fun hHeld => ?_)
      clear hK K
      try simp only [oA5, Act.put, List.setIfInBounds_toArray, List.set_cons_zero, List.set_cons_succ]
      refine wpAnyH_take (i := 6) (oi := oA6) (v := .int .i64 kn) rfl (by kernel_rfl) (by kernel_rfl) (by kernel_rfl) (fun _ _ _ h => h) (Or.inl ⟨by rfl, fun w hSw => ?_⟩) hHeld ?_
      · (try dsimp only at hSw)
        unfold oA6
        go_simp
      try simp only [oA6, Act.put, List.setIfInBounds_toArray, List.set_cons_zero, List.set_cons_succ]
      refine wpAnyH_done (by kernel_rfl) ?_ _
      obtain ⟨V2, hV2⟩ : ∃ V2, Hid (V2 = V.drew) := ⟨_, rfl⟩
      have bV2 := hide (show Below wr.heap.size wr V2 by rw [unhide hV2]; exact (unhide bV).drew)
      have K9 : V2.cell? ⟨wr.heap.size, 0, none⟩ = some (.int .i64 z0) ∧ V2.cell? ⟨wr.heap.size, 1, none⟩ = some (.string z1) ∧ V2.cell? ⟨wr.heap.size, 2, none⟩ = some (.string z2) := by rw [unhide hV2]; exact K8
      have g9 := (unhide bV2).size
      have vl : wr.heap.size < V2.heap.size := by rw [unhide hV2]; exact (unhide vL)
      have wl := (unhide PT).bx.lt.2
      have bc := ((unhide PT).bx.below (unhide bV2) wl).c1
      have K0 : V2.cell? ⟨wr.heap.size, 0, none⟩ = some (.int .i64 z0) ∧ V2.cell? ⟨wr.heap.size, 1, none⟩ = some (.string z1) ∧ V2.cell? ⟨wr.heap.size, 2, none⟩ = some (.string z2) := K9
      have KB : (V2.drew.alloc (.cells #[.int .i64 z0, .string (z1 ++ z2.extract 0 kn), .string ⟨#[]⟩] 54)).cell? ⟨wr.heap.size, 0, none⟩ = some (.int .i64 z0) ∧ (V2.drew.alloc (.cells #[.int .i64 z0, .string (z1 ++ z2.extract 0 kn), .string ⟨#[]⟩] 54)).cell? ⟨wr.heap.size, 1, none⟩ = some (.string z1) ∧ (V2.drew.alloc (.cells #[.int .i64 z0, .string (z1 ++ z2.extract 0 kn), .string ⟨#[]⟩] 54)).cell? ⟨wr.heap.size, 2, none⟩ = some (.string z2) := ⟨((one_more V2.drew (.cells #[.int .i64 z0, .string (z1 ++ z2.extract 0 kn), .string ⟨#[]⟩] 54)).cell (p := ⟨wr.heap.size, 0, none⟩) vl).trans K9.1, ((one_more V2.drew (.cells #[.int .i64 z0, .string (z1 ++ z2.extract 0 kn), .string ⟨#[]⟩] 54)).cell (p := ⟨wr.heap.size, 1, none⟩) vl).trans K9.2.1, ((one_more V2.drew (.cells #[.int .i64 z0, .string (z1 ++ z2.extract 0 kn), .string ⟨#[]⟩] 54)).cell (p := ⟨wr.heap.size, 2, none⟩) vl).trans K9.2.2⟩
      have bcD : V2.drew.cell? ⟨u.heap.size, 1, none⟩ = some (.slice a m c) := bc
      have bcA : (V2.alloc (.cells #[.int .i64 z0, .string (z1 ++ z2.extract 0 kn), .string ⟨#[]⟩] 54)).cell? ⟨u.heap.size, 1, none⟩ = some (.slice a m c) := ((one_more V2.drew (.cells #[.int .i64 z0, .string (z1 ++ z2.extract 0 kn), .string ⟨#[]⟩] 54)).cell (p := ⟨u.heap.size, 1, none⟩) (show u.heap.size < V2.heap.size from by omega)).trans bc
      go_wp2_with fail
      rw [← unhide hV2]
      clear hV2
      refine wp_region_held_drew (S := (fun w' => w'.cell? ⟨wr.heap.size, 0, none⟩ = some (.int .i64 z0) ∧ w'.cell? ⟨wr.heap.size, 1, none⟩ = some (.string z1) ∧ w'.cell? ⟨wr.heap.size, 2, none⟩ = some (.string z2))) (by kernel_rfl) K0 (fun hHeld => ?_)
      refine wpAnyH_take (i := 0) (oi := oB0) (v := .pointer (some ⟨u.heap.size, 1, none⟩)) rfl (by kernel_rfl) (by kernel_rfl) (by kernel_rfl) (fun _ _ _ h => h) (Or.inl ⟨by rfl, fun w hSw => ?_⟩) hHeld ?_
      · (try dsimp only at hSw)
        unfold oB0
        go_simp
      try simp only [oB0, Act.put, List.setIfInBounds_toArray, List.set_cons_zero, List.set_cons_succ]
      refine wpAnyH_take (i := 2) (oi := oB2) (v := .pointer (some ⟨wr.heap.size, 0, none⟩)) rfl (by kernel_rfl) (by kernel_rfl) (by kernel_rfl) (fun _ _ _ h => h) (Or.inl ⟨by rfl, fun w hSw => ?_⟩) hHeld ?_
      · (try dsimp only at hSw)
        unfold oB2
        go_simp
      try simp only [oB2, Act.put, List.setIfInBounds_toArray, List.set_cons_zero, List.set_cons_succ]
      refine wpAnyH_take (i := 3) (oi := oB3) (v := .int .i64 z0) rfl (by kernel_rfl) (by kernel_rfl) (by kernel_rfl) (fun _ _ _ h => h) (Or.inl ⟨by rfl, fun w hSw => ?_⟩) hHeld ?_
      · (try dsimp only at hSw)
        unfold oB3
        go_simp
      try simp only [oB3, Act.put, List.setIfInBounds_toArray, List.set_cons_zero, List.set_cons_succ]
      refine wpAnyH_take (i := 4) (oi := oB4) (v := .pointer (some ⟨wr.heap.size, 1, none⟩)) rfl (by kernel_rfl) (by kernel_rfl) (by kernel_rfl) (fun _ _ _ h => h) (Or.inl ⟨by rfl, fun w hSw => ?_⟩) hHeld ?_
      · (try dsimp only at hSw)
        unfold oB4
        go_simp
      try simp only [oB4, Act.put, List.setIfInBounds_toArray, List.set_cons_zero, List.set_cons_succ]
      refine wpAnyH_take (i := 5) (oi := oB5) (v := .string z1) rfl (by kernel_rfl) (by kernel_rfl) (by kernel_rfl) (fun _ _ _ h => h) (Or.inl ⟨by rfl, fun w hSw => ?_⟩) hHeld ?_
      · (try dsimp only at hSw)
        unfold oB5
        go_simp
      try simp only [oB5, Act.put, List.setIfInBounds_toArray, List.set_cons_zero, List.set_cons_succ]
      refine wpAnyH_take (i := 6) (oi := oB6) (v := .pointer (some ⟨wr.heap.size, 2, none⟩)) rfl (by kernel_rfl) (by kernel_rfl) (by kernel_rfl) (fun _ _ _ h => h) (Or.inl ⟨by rfl, fun w hSw => ?_⟩) hHeld ?_
      · (try dsimp only at hSw)
        unfold oB6
        go_simp
      try simp only [oB6, Act.put, List.setIfInBounds_toArray, List.set_cons_zero, List.set_cons_succ]
      refine wpAnyH_take (i := 7) (oi := oB7) (v := .string z2) rfl (by kernel_rfl) (by kernel_rfl) (by kernel_rfl) (fun _ _ _ h => h) (Or.inl ⟨by rfl, fun w hSw => ?_⟩) hHeld ?_
      · (try dsimp only at hSw)
        unfold oB7
        go_simp
      try simp only [oB7, Act.put, List.setIfInBounds_toArray, List.set_cons_zero, List.set_cons_succ]
      refine wpAnyH_take (i := 8) (oi := oB8) (v := .int .i64 kn) rfl (by kernel_rfl) (by kernel_rfl) (by kernel_rfl) (fun _ _ _ h => h) (Or.inl ⟨by rfl, fun w hSw => ?_⟩) hHeld ?_
      · (try dsimp only at hSw)
        unfold oB8
        go_simp
      try simp only [oB8, Act.put, List.setIfInBounds_toArray, List.set_cons_zero, List.set_cons_succ]
      refine wpAnyH_take (i := 9) (oi := oB9) (v := .string (z2.extract 0 kn)) rfl (by kernel_rfl) (by kernel_rfl) (by kernel_rfl) (fun _ _ _ h => h) (Or.inl ⟨by rfl, fun w hSw => ?_⟩) hHeld ?_
      · (try dsimp only at hSw)
        unfold oB9
        go_simp
      try simp only [oB9, Act.put, List.setIfInBounds_toArray, List.set_cons_zero, List.set_cons_succ]
      refine wpAnyH_take (i := 10) (oi := oB10) (v := .string (z1 ++ z2.extract 0 kn)) rfl (by kernel_rfl) (by kernel_rfl) (by kernel_rfl) (fun _ _ _ h => h) (Or.inl ⟨by rfl, fun w hSw => ?_⟩) hHeld ?_
      · (try dsimp only at hSw)
        unfold oB10
        go_simp
      try simp only [oB10, Act.put, List.setIfInBounds_toArray, List.set_cons_zero, List.set_cons_succ]
      refine wpAnyH_take (i := 11) (oi := oB11) (v := .agg #[.int .i64 z0, .string (z1 ++ z2.extract 0 kn), .string ⟨#[]⟩]) rfl (by kernel_rfl) (by kernel_rfl) (by kernel_rfl) (fun _ _ _ h => h) (Or.inl ⟨by rfl, fun w hSw => ?_⟩) hHeld ?_
      · (try dsimp only at hSw)
        unfold oB11
        go_simp
      try simp only [oB11, Act.put, List.setIfInBounds_toArray, List.set_cons_zero, List.set_cons_succ]
      refine wpAnyH_ready (rs := [1, 12]) (by kernel_rfl) (by simp) ?_
      refine AllReadyH.cons (o := oB1) rfl (fun K hK => ?_) (AllReadyH.cons (o := oB12) rfl (fun K hK => ?_) AllReadyH.nil)
      · unfold oB1
        go_simp
        refine hK.out _ _ K0 (fun hHeld => ?_)
        clear hK K
        try simp only [oB1, Act.put, List.setIfInBounds_toArray, List.set_cons_zero, List.set_cons_succ]
        refine wpAnyH_ready (rs := [12]) (by kernel_rfl) (by simp) ?_
        refine AllReadyH.cons (o := oB12) rfl (fun K hK => ?_) AllReadyH.nil
        unfold oB12
        go_simp
        refine hK.out _ _ KB (fun hHeld => ?_)
        clear hK K
        try simp only [oB12, Act.put, List.setIfInBounds_toArray, List.set_cons_zero, List.set_cons_succ]
        refine wpAnyH_ready (rs := [13]) (by kernel_rfl) (by simp) ?_
        refine AllReadyH.cons (o := oB13) rfl (fun K hK => ?_) AllReadyH.nil
        refine step_app (V2.drew.alloc (.cells #[.int .i64 z0, .string (z1 ++ z2.extract 0 kn), .string ⟨#[]⟩] 54)) (by rfl) _ _ 24 54 (by rfl) (.agg #[.int .i64 0, .string ByteArray.empty, .string ByteArray.empty]) 3 40 Try.underlying24 HelpF14.info2 rfl (by decide) (by decide) W.heap.size (.slice a m c) m (flatF ((x.ps.take m).map (crashF keep))) V2.drew.heap.size [.int .i64 z0, .string (z1 ++ z2.extract 0 kn), .string ⟨#[]⟩] (by rfl) (by rfl) (row_step (W := V2.drew) (row_step (unhide PT).ow (unhide bV2).drew) (one_more V2.drew (.cells #[.int .i64 z0, .string (z1 ++ z2.extract 0 kn), .string ⟨#[]⟩] 54))) rfl (litm V2.drew _ _ _ (by rfl)) (by simp [Value.oneCell']) (by omega) (Nat.le_trans (show W.heap.size ≤ V2.heap.size from by have := (unhide PT).gr.size; omega) (by simp)) ?_
        intro g9' c9 u9 o9 gr9
        have PA := hide (Pt.app (p := (z0, z1 ++ z2.extract 0 kn, ByteArray.empty)) (unhide PT) (by omega) (show Below wr.heap.size wr (V2.drew.alloc (.cells #[.int .i64 z0, .string (z1 ++ z2.extract 0 kn), .string ⟨#[]⟩] 54)) from (unhide bV2).drew.alloc (show wr.heap.size ≤ V2.drew.heap.size from g9) _) gr9 o9)
        have fr9 : u9.frozen? ⟨u.heap.size, 1, none⟩ = false := (unhide PA).1.free 1
        have bc9 := (unhide PA).1.c1
        have gs9 := gr9.size
        have NB : some wr.heap.size ≠ (Value.slice a m c).ownBlock := fun e => by have := (World.ownsRow.lt (unhide PT).ow _ e.symm).2; omega
        have KC : u9.cell? ⟨wr.heap.size, 0, none⟩ = some (.int .i64 z0) ∧ u9.cell? ⟨wr.heap.size, 1, none⟩ = some (.string z1) ∧ u9.cell? ⟨wr.heap.size, 2, none⟩ = some (.string z2) := ⟨gr9.cell KB.1 NB, gr9.cell KB.2.1 NB, gr9.cell KB.2.2 NB⟩
        have sg := (bc_set1 (unhide PA).1 (.slice (some ⟨g9', 0, none⟩) (m + 1) c9)).2
        have KD : (u9.setCell ⟨u.heap.size, 1, none⟩ (.slice (some ⟨g9', 0, none⟩) (m + 1) c9)).cell? ⟨wr.heap.size, 0, none⟩ = some (.int .i64 z0) ∧ (u9.setCell ⟨u.heap.size, 1, none⟩ (.slice (some ⟨g9', 0, none⟩) (m + 1) c9)).cell? ⟨wr.heap.size, 1, none⟩ = some (.string z1) ∧ (u9.setCell ⟨u.heap.size, 1, none⟩ (.slice (some ⟨g9', 0, none⟩) (m + 1) c9)).cell? ⟨wr.heap.size, 2, none⟩ = some (.string z2) := ⟨(kcell sg 0 (show wr.heap.size < u9.heap.size from by have : V2.heap.size < (V2.drew.alloc (.cells #[.int .i64 z0, .string (z1 ++ z2.extract 0 kn), .string ⟨#[]⟩] 54)).heap.size := (by show V2.heap.size < (V2.heap.push _).size; rw [Array.size_push]; omega); omega) (show wr.heap.size ≠ u.heap.size from by omega)).trans KC.1, (kcell sg 1 (show wr.heap.size < u9.heap.size from by have : V2.heap.size < (V2.drew.alloc (.cells #[.int .i64 z0, .string (z1 ++ z2.extract 0 kn), .string ⟨#[]⟩] 54)).heap.size := (by show V2.heap.size < (V2.heap.push _).size; rw [Array.size_push]; omega); omega) (show wr.heap.size ≠ u.heap.size from by omega)).trans KC.2.1, (kcell sg 2 (show wr.heap.size < u9.heap.size from by have : V2.heap.size < (V2.drew.alloc (.cells #[.int .i64 z0, .string (z1 ++ z2.extract 0 kn), .string ⟨#[]⟩] 54)).heap.size := (by show V2.heap.size < (V2.heap.push _).size; rw [Array.size_push]; omega); omega) (show wr.heap.size ≠ u.heap.size from by omega)).trans KC.2.2⟩
        clear o9 sg
        refine hK.out _ _ KC (fun hHeld => ?_)
        clear hK K
        try simp only [oB13, Act.put, List.setIfInBounds_toArray, List.set_cons_zero, List.set_cons_succ]
        refine wpAnyH_take (i := 14) (oi := oB14) (v := .pointer (some ⟨u.heap.size, 1, none⟩)) rfl (by kernel_rfl) (by kernel_rfl) (by kernel_rfl) (fun _ _ _ h => h) (Or.inl ⟨by rfl, fun w hSw => ?_⟩) hHeld ?_
        · (try dsimp only at hSw)
          unfold oB14
          go_simp
        try simp only [oB14, Act.put, List.setIfInBounds_toArray, List.set_cons_zero, List.set_cons_succ]
        refine wpAnyH_ready (rs := [15]) (by kernel_rfl) (by simp) ?_
        refine AllReadyH.cons (o := oB15) rfl (fun K hK => ?_) AllReadyH.nil
        unfold oB15
        go_simp
        refine hK.out _ _ KD (fun hHeld => ?_)
        clear hK K
        try simp only [oB15, Act.put, List.setIfInBounds_toArray, List.set_cons_zero, List.set_cons_succ]
        refine wpAnyH_done (by kernel_rfl) ?_ _
        clear K0 KB KC KD gr9 bc bcD bcA bc9 fr9 K8 K9
        have PN := hide (unhide PA).2
        clear PA
        go_wp2
        go_roundw
        case rel => exact ⟨m + 1, c9, some ⟨g9', 0, none⟩, by go_num, by omega, hide (by rw [unhide TK]; exact unhide PN)⟩
        case measure => simp [intOf]; omega
      · unfold oB12
        go_simp
        refine hK.out _ _ KB (fun hHeld => ?_)
        clear hK K
        try simp only [oB12, Act.put, List.setIfInBounds_toArray, List.set_cons_zero, List.set_cons_succ]
        refine wpAnyH_ready (rs := [1]) (by kernel_rfl) (by simp) ?_
        refine AllReadyH.cons (o := oB1) rfl (fun K hK => ?_) AllReadyH.nil
        unfold oB1
        go_simp
        refine hK.out _ _ KB (fun hHeld => ?_)
        clear hK K
        try simp only [oB1, Act.put, List.setIfInBounds_toArray, List.set_cons_zero, List.set_cons_succ]
        refine wpAnyH_ready (rs := [13]) (by kernel_rfl) (by simp) ?_
        refine AllReadyH.cons (o := oB13) rfl (fun K hK => ?_) AllReadyH.nil
        refine step_app (V2.drew.alloc (.cells #[.int .i64 z0, .string (z1 ++ z2.extract 0 kn), .string ⟨#[]⟩] 54)) (by rfl) _ _ 24 54 (by rfl) (.agg #[.int .i64 0, .string ByteArray.empty, .string ByteArray.empty]) 3 40 Try.underlying24 HelpF14.info2 rfl (by decide) (by decide) W.heap.size (.slice a m c) m (flatF ((x.ps.take m).map (crashF keep))) V2.drew.heap.size [.int .i64 z0, .string (z1 ++ z2.extract 0 kn), .string ⟨#[]⟩] (by rfl) (by rfl) (row_step (W := V2.drew) (row_step (unhide PT).ow (unhide bV2).drew) (one_more V2.drew (.cells #[.int .i64 z0, .string (z1 ++ z2.extract 0 kn), .string ⟨#[]⟩] 54))) rfl (litm V2.drew _ _ _ (by rfl)) (by simp [Value.oneCell']) (by omega) (Nat.le_trans (show W.heap.size ≤ V2.heap.size from by have := (unhide PT).gr.size; omega) (by simp)) ?_
        intro g9' c9 u9 o9 gr9
        have PA := hide (Pt.app (p := (z0, z1 ++ z2.extract 0 kn, ByteArray.empty)) (unhide PT) (by omega) (show Below wr.heap.size wr (V2.drew.alloc (.cells #[.int .i64 z0, .string (z1 ++ z2.extract 0 kn), .string ⟨#[]⟩] 54)) from (unhide bV2).drew.alloc (show wr.heap.size ≤ V2.drew.heap.size from g9) _) gr9 o9)
        have fr9 : u9.frozen? ⟨u.heap.size, 1, none⟩ = false := (unhide PA).1.free 1
        have bc9 := (unhide PA).1.c1
        have gs9 := gr9.size
        have NB : some wr.heap.size ≠ (Value.slice a m c).ownBlock := fun e => by have := (World.ownsRow.lt (unhide PT).ow _ e.symm).2; omega
        have KC : u9.cell? ⟨wr.heap.size, 0, none⟩ = some (.int .i64 z0) ∧ u9.cell? ⟨wr.heap.size, 1, none⟩ = some (.string z1) ∧ u9.cell? ⟨wr.heap.size, 2, none⟩ = some (.string z2) := ⟨gr9.cell KB.1 NB, gr9.cell KB.2.1 NB, gr9.cell KB.2.2 NB⟩
        have sg := (bc_set1 (unhide PA).1 (.slice (some ⟨g9', 0, none⟩) (m + 1) c9)).2
        have KD : (u9.setCell ⟨u.heap.size, 1, none⟩ (.slice (some ⟨g9', 0, none⟩) (m + 1) c9)).cell? ⟨wr.heap.size, 0, none⟩ = some (.int .i64 z0) ∧ (u9.setCell ⟨u.heap.size, 1, none⟩ (.slice (some ⟨g9', 0, none⟩) (m + 1) c9)).cell? ⟨wr.heap.size, 1, none⟩ = some (.string z1) ∧ (u9.setCell ⟨u.heap.size, 1, none⟩ (.slice (some ⟨g9', 0, none⟩) (m + 1) c9)).cell? ⟨wr.heap.size, 2, none⟩ = some (.string z2) := ⟨(kcell sg 0 (show wr.heap.size < u9.heap.size from by have : V2.heap.size < (V2.drew.alloc (.cells #[.int .i64 z0, .string (z1 ++ z2.extract 0 kn), .string ⟨#[]⟩] 54)).heap.size := (by show V2.heap.size < (V2.heap.push _).size; rw [Array.size_push]; omega); omega) (show wr.heap.size ≠ u.heap.size from by omega)).trans KC.1, (kcell sg 1 (show wr.heap.size < u9.heap.size from by have : V2.heap.size < (V2.drew.alloc (.cells #[.int .i64 z0, .string (z1 ++ z2.extract 0 kn), .string ⟨#[]⟩] 54)).heap.size := (by show V2.heap.size < (V2.heap.push _).size; rw [Array.size_push]; omega); omega) (show wr.heap.size ≠ u.heap.size from by omega)).trans KC.2.1, (kcell sg 2 (show wr.heap.size < u9.heap.size from by have : V2.heap.size < (V2.drew.alloc (.cells #[.int .i64 z0, .string (z1 ++ z2.extract 0 kn), .string ⟨#[]⟩] 54)).heap.size := (by show V2.heap.size < (V2.heap.push _).size; rw [Array.size_push]; omega); omega) (show wr.heap.size ≠ u.heap.size from by omega)).trans KC.2.2⟩
        clear o9 sg
        refine hK.out _ _ KC (fun hHeld => ?_)
        clear hK K
        try simp only [oB13, Act.put, List.setIfInBounds_toArray, List.set_cons_zero, List.set_cons_succ]
        refine wpAnyH_take (i := 14) (oi := oB14) (v := .pointer (some ⟨u.heap.size, 1, none⟩)) rfl (by kernel_rfl) (by kernel_rfl) (by kernel_rfl) (fun _ _ _ h => h) (Or.inl ⟨by rfl, fun w hSw => ?_⟩) hHeld ?_
        · (try dsimp only at hSw)
          unfold oB14
          go_simp
        try simp only [oB14, Act.put, List.setIfInBounds_toArray, List.set_cons_zero, List.set_cons_succ]
        refine wpAnyH_ready (rs := [15]) (by kernel_rfl) (by simp) ?_
        refine AllReadyH.cons (o := oB15) rfl (fun K hK => ?_) AllReadyH.nil
        unfold oB15
        go_simp
        refine hK.out _ _ KD (fun hHeld => ?_)
        clear hK K
        try simp only [oB15, Act.put, List.setIfInBounds_toArray, List.set_cons_zero, List.set_cons_succ]
        refine wpAnyH_done (by kernel_rfl) ?_ _
        clear K0 KB KC KD gr9 bc bcD bcA bc9 fr9 K8 K9
        have PN := hide (unhide PA).2
        clear PA
        go_wp2
        go_roundw
        case rel => exact ⟨m + 1, c9, some ⟨g9', 0, none⟩, by go_num, by omega, hide (by rw [unhide TK]; exact unhide PN)⟩
        case measure => simp [intOf]; omega
    · have e : m = x.ps.length := by omega
      subst e
      have PN := unhide PT
      rw [List.take_length] at PN
      have B0 := PN.bx.c0
      have B1 := PN.bx.c1
      have R4 := hide ((unhide R3).kept PN.gr (by simp; omega))
      have f0 := (unhide R4).free 0
      have f1 := (unhide R4).free 1
      have r0 := (unhide R4).c0
      have r1 := (unhide R4).c1
      have lm : (x.ps.map (crashF keep)).length = x.ps.length := by simp
      have BW := hide (show Below w.heap.size w wr from grow_low (unhide W3).b PN.gr ⟨by omega, (unhide W3).b.size⟩)
      have EN := hide (endedD (y := ⟨x.room, a, c, x.ps.map (crashF keep)⟩) (base0 := W.heap.size) (unhide BW) (unhide R4) (show OwD wr W.heap.size ⟨x.room, a, c, x.ps.map (crashF keep)⟩ from by unfold OwD; simp only [lm]; exact PN.ow) (by omega))
      simp only [lm] at EN
      clear PN PT lm
      go_wp2
      refine bodyPost_ret (v := .agg #[.int .i64 x.room, .slice a x.ps.length c]) (by simp [results, Try.results67, go_sem, r0, r1]) rfl ⟨⟨x.room, a, c, x.ps.map (crashF keep)⟩, (unhide E).symm, by simp, (unhide EN).1, (unhide EN).2⟩
end Go.Proofs.Ytcajdiopgaoicaa.SCrash14
namespace Go.Proofs.Ytcajdiopgaoicaa.Ok14
open Fil14 DiskH14 SDk14 SOk14 SRd14 SLess14 SRef14 SCom14 SPut14 Pure14 SAppend14 SSync14 SMove14 SCut14 SDrop14 SCrash14
/-- A file put in the place of one of its name. -/
theorem ok_put {room : Int} {ps : List TF} {f : TF} {k : Nat} (h : OkD room ps) (hk : k < ps.length) (hf : f.1 = (elF ps k).1) (hs : (sumZ ps : Int) - ((elF ps k).2.1.size + (elF ps k).2.2.size) + (f.2.1.size + f.2.2.size) ≤ room) : OkD room (putF ps f) := by
  obtain ⟨ha, hn⟩ := asc_of h
  have s1 := sum_rest ha hk
  have s2 := sum_put f ha
  rw [hf] at s2
  refine okd_of h.1 (by omega) (put_asc f ha) (put_named ha hn ?_)
  rw [hf]
  exact hn _ (elF_mem hk)
/-- A new file. -/
theorem ok_new {room : Int} {ps : List TF} {f : TF} (h : OkD room ps) (hn' : 0 ≤ f.1 ∧ f.1 ≤ 21) (hf : ∀ p ∈ ps, p.1 ≠ f.1) (hs : (sumZ ps : Int) + (f.2.1.size + f.2.2.size) ≤ room) : OkD room (putF ps f) := by
  obtain ⟨ha, hn⟩ := asc_of h
  have s1 := sum_new ha hf
  have s2 := sum_put f ha
  exact okd_of h.1 (by omega) (put_asc f ha) (put_named ha hn hn')
theorem app_name {ps : List TF} {nm : Int} {s : ByteArray} : (appF ps nm s).1 = nm := by
  unfold appF
  by_cases q : 0 ≤ findF ps nm
  · rw [if_pos q]
    obtain ⟨k, e, l, m⟩ := findF_in q
    rw [e]
    exact m
  · rw [if_neg q]
theorem ok_append {room : Int} {ps : List TF} {nm : Int} {s : ByteArray} (h : OkD room ps) (hn : okN nm = true) (hs : (s.size : Int) ≤ room - sumZ ps) : OkD room (putF ps (appF ps nm s)) := by
  by_cases q : 0 ≤ findF ps nm
  · obtain ⟨k, e, l, m⟩ := findF_in q
    have ef : appF ps nm s = ((elF ps k).1, (elF ps k).2.1, (elF ps k).2.2 ++ s) := by unfold appF; rw [if_pos q, e]; rfl
    refine ok_put h l (by rw [ef]) ?_
    rw [ef]
    simp only [ByteArray.size_append]
    omega
  · have ef : appF ps nm s = (nm, ⟨#[]⟩, s) := by unfold appF; rw [if_neg q]
    refine ok_new h (by rw [ef]; exact ok_named.1 hn) (fun p hp => ?_) ?_
    · rw [ef]
      exact find_neg (nm := nm) (by omega) p hp
    · rw [ef]
      have : (⟨#[]⟩ : ByteArray).size = 0 := rfl
      simp only [this]
      omega
theorem ok_sync {room : Int} {ps : List TF} {nm : Int} (q : (atD room ps nm).2 = 0) : OkD room (putF ps (nm, bytesAt ps (atD room ps nm).1.toNat, ByteArray.empty)) := by
  obtain ⟨ok, _, k, e, l, m⟩ := at_in q
  rw [e]
  refine ok_put ok l (by simpa using m.symm) ?_
  have : ByteArray.empty.size = 0 := rfl
  have b : (bytesAt ps k).size = (elF ps k).2.1.size + (elF ps k).2.2.size := by unfold bytesAt; rw [ByteArray.size_append]
  simp only [Int.toNat_natCast, this, b]
  have := ok.2.2.1
  omega
theorem ok_cut {room : Int} {ps : List TF} {nm n : Int} (q : (atD room ps nm).2 = 0) : OkD room (putF ps (nm, (bytesAt ps (atD room ps nm).1.toNat).extract 0 n.toNat, ByteArray.empty)) := by
  obtain ⟨ok, _, k, e, l, m⟩ := at_in q
  rw [e]
  refine ok_put ok l (by simpa using m.symm) ?_
  have : ByteArray.empty.size = 0 := rfl
  have b : (bytesAt ps k).size = (elF ps k).2.1.size + (elF ps k).2.2.size := by unfold bytesAt; rw [ByteArray.size_append]
  have c : ((bytesAt ps k).extract 0 n.toNat).size ≤ (bytesAt ps k).size := by simp; omega
  simp only [Int.toNat_natCast, this]
  have := ok.2.2.1
  omega
theorem ok_less {room : Int} {ps : List TF} {k : Nat} (ok : OkD room ps) (l : k < ps.length) : OkD room (lessN ps k ps.length) ∧ (sumZ (lessN ps k ps.length) : Int) = sumZ ps - ((elF ps k).2.1.size + (elF ps k).2.2.size) := by
  obtain ⟨ha, hn⟩ := asc_of ok
  have s1 := sum_rest ha l
  have s2 : sumZ (lessN ps k ps.length) = sumZ (lows ps (elF ps k).1) + sumZ (highs ps (elF ps k).1) := by rw [less_is ha l, sumZ_append]
  have := ok.2.2.1
  exact ⟨okd_of ok.1 (by omega) (less_asc ha l) (fun p hp => hn p ((less_mem ha l).1 hp).1), by omega⟩
theorem ok_move {room : Int} {ps : List TF} {nm to : Int} (q : (atD room ps nm).2 = 0) (ht : okN to = true) : OkD room (putF (lessN ps (atD room ps nm).1 ps.length) (to, (elF ps (atD room ps nm).1.toNat).2.1, (elF ps (atD room ps nm).1.toNat).2.2)) := by
  obtain ⟨ok, _, k, e, l, m⟩ := at_in q
  rw [e]
  simp only [Int.toNat_natCast]
  obtain ⟨o1, s1⟩ := ok_less ok l
  have sr := ok.2.2.1
  by_cases c : 0 ≤ findF (lessN ps k ps.length) to
  · obtain ⟨j, _, lj, mj⟩ := findF_in c
    refine ok_put o1 lj (by simpa using mj.symm) ?_
    simp only
    omega
  · exact ok_new o1 (ok_named.1 ht) (find_neg (nm := to) (by omega)) (by simp only; omega)
theorem crash_name (keep : Int) (p : TF) : (crashF keep p).1 = p.1 := rfl
theorem crash_size (keep : Int) (p : TF) : (crashF keep p).2.1.size + (crashF keep p).2.2.size ≤ p.2.1.size + p.2.2.size := by
  unfold crashF
  have : ByteArray.empty.size = 0 := rfl
  simp only [ByteArray.size_append, this]
  have : (p.2.2.extract 0 (min (max keep 0) p.2.2.size).toNat).size ≤ p.2.2.size := by simp; omega
  omega
theorem sum_crash (keep : Int) : ∀ ps : List TF, sumZ (ps.map (crashF keep)) ≤ sumZ ps
  | [] => by simp
  | p :: ps => by
    rw [List.map_cons, sum_cons, sum_cons]
    have := sum_crash keep ps
    have := crash_size keep p
    omega
theorem ok_crash {room : Int} {ps : List TF} (keep : Int) (h : OkD room ps) : OkD room (ps.map (crashF keep)) := by
  obtain ⟨ha, hn⟩ := asc_of h
  have := sum_crash keep ps
  have := h.2.2.1
  refine okd_of h.1 (by omega) ?_ (fun p hp => ?_)
  · unfold Asc
    rw [List.pairwise_map]
    exact ha
  · obtain ⟨q, hq, rfl⟩ := List.mem_map.1 hp
    exact hn q hq
end Go.Proofs.Ytcajdiopgaoicaa.Ok14
namespace Go.Proofs.Ytcajdiopgaoicaa.Okk14
open Fil14 DiskH14 SDk14 SOk14 SRd14 SLess14 SRef14 SCom14 SPut14 Pure14 SAppend14 SSync14 SMove14 SCut14 SDrop14 SCrash14 Ok14
/-- Right, or all is refused. -/
def Rg (r : (Int × List TF) × Int) : Prop := r.2 ≠ 1 → OkD r.1.1 r.1.2
theorem ref_ok {code room : Int} {ps : List TF} (h : OkD room ps) (q : code ≠ 1) : OkD (refD code room ps).1 (refD code room ps).2 := by
  unfold refD
  rw [if_neg q]
  exact h
theorem rg_append {room : Int} {ps : List TF} (nm : Int) (s : ByteArray) (h : OkD room ps) : Rg (appendD room ps nm s) := by
  unfold Rg appendD
  by_cases q : OkD room ps ∧ okN nm = true
  · rw [if_pos q]
    split
    · exact fun _ => h
    · rename_i g
      exact fun _ => show OkD room (putF ps (appF ps nm s)) from ok_append h q.2 (by omega)
  · rw [if_neg q]
    exact fun e => absurd rfl e
theorem rg_sync {room : Int} {ps : List TF} (nm : Int) (h : OkD room ps) : Rg (syncD room ps nm) := by
  unfold Rg syncD
  by_cases q : (atD room ps nm).2 = 0
  · rw [if_pos q]
    exact fun _ => ok_sync q
  · rw [if_neg q]
    exact fun e => ref_ok h e
theorem rg_move {room : Int} {ps : List TF} (nm to : Int) (h : OkD room ps) : Rg (moveD room ps nm to) := by
  unfold Rg moveD
  by_cases c : okN to = true ∧ nm ≠ to
  · rw [if_pos c]
    by_cases q : (atD room ps nm).2 = 0
    · rw [if_pos q]
      exact fun _ => ok_move q c.1
    · rw [if_neg q]
      exact fun e => ref_ok h e
  · rw [if_neg c]
    exact fun e => absurd rfl e
theorem rg_drop {room : Int} {ps : List TF} (nm : Int) (h : OkD room ps) : Rg (dropD room ps nm) := by
  unfold Rg dropD
  by_cases q : (atD room ps nm).2 = 0
  · rw [if_pos q]
    obtain ⟨ok, _, k, e, l, m⟩ := at_in q
    rw [e]
    exact fun _ => (ok_less ok l).1
  · rw [if_neg q]
    exact fun e => ref_ok h e
end Go.Proofs.Ytcajdiopgaoicaa.Okk14
