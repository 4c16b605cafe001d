/- Texts of one proof, one behind the other: SOk14, SRd14, App14. -/
import Derived.Test.YtcajdiopgaoicaaRows
import Derived.Test.YtcajdiopgaoicaaSG1
import Derived.Deep.RegionHeld3
import Derived.Maps.AppendAt
set_option linter.unusedVariables false
set_option linter.unusedSimpArgs false
namespace Go.Proofs.Ytcajdiopgaoicaa.SOk14
open Go.ChangeShapes Go.WideShapes Go.ChangeAt Go.RowKit Fil14 DiskH14 DkH14 SDk14
theorem sIn (w : World) (x lo hi : Int) : Calls Try.prog 44 #[.int .i64 x, .int .i64 lo, .int .i64 hi] w fun e w' => e = .returned (.bool (decide (lo ≤ x ∧ x ≤ hi))) ∧ w' = w := by
  by_cases h0 : lo ≤ x
  · by_cases h1 : x ≤ hi
    · rw [decide_eq_true ⟨h0, h1⟩]
      go_enter Try.func44, Try.ntmps44
      go_wp2
      go_ret
      exact ⟨rfl, rfl⟩
    · rw [decide_eq_false (fun q => h1 q.2)]
      go_enter Try.func44, Try.ntmps44
      go_wp2
      go_ret
      exact ⟨rfl, rfl⟩
  · rw [decide_eq_false (fun q => h0 q.1)]
    go_enter Try.func44, Try.ntmps44
    go_wp2
    go_ret
    exact ⟨rfl, rfl⟩
theorem sInB (w : World) (x lo hi : Int) (b : Bool) (h : decide (lo ≤ x ∧ x ≤ hi) = b) : Calls Try.prog 44 #[.int .i64 x, .int .i64 lo, .int .i64 hi] w fun e w' => e = .returned (.bool b) ∧ w' = w := by
  rw [← h]
  exact sIn w x lo hi
/-- A name. -/
def okN (n : Int) : Bool := decide (0 ≤ n ∧ n ≤ 21)
theorem sName (w : World) (n : Int) : Calls Try.prog 46 #[.int .i64 n] w fun e w' => e = .returned (.bool (okN n)) ∧ w' = w := by
  have S := hide (fun u => sInB u n 0 21 (okN n) rfl)
  generalize okN n = b at *
  go_enter Try.func46, Try.ntmps46
  go_wp2_with fail
  refine (unhide S _).mono ?_
  rintro e u ⟨rfl, rfl⟩
  go_wp2
  go_ret
  exact ⟨rfl, rfl⟩
/-- The file at a place has a name, above the name ahead of it. -/
def okAt (ps : List TF) (i : Nat) : Prop := okN (elF ps i).1 = true ∧ (0 < i → (elF ps (i - 1)).1 < (elF ps i).1)
instance (ps : List TF) (i : Nat) : Decidable (okAt ps i) := by unfold okAt; infer_instance
/-- A disk as it should be. -/
def OkD (room : Int) (ps : List TF) : Prop := (0 ≤ room ∧ room ≤ 60000) ∧ ps.length ≤ 22 ∧ (sumZ ps : Int) ≤ room ∧ ∀ i, i < ps.length → okAt ps i
instance (room : Int) (ps : List TF) : Decidable (OkD room ps) := by unfold OkD; infer_instance
theorem below_of_drew {w w' : World} (h : Below w.drew.heap.size w.drew w') : Below w.heap.size w w' := ((Below.refl w.heap.size w).drew).trans h
-- WALK
abbrev oA0 : Oper := { dst := some 4, op := Go.Op.fieldAddr 26 (Go.Operand.tmp 1) 0, type := 0, pos := "l14_disk.go:16", after := #[], guard := none }
abbrev oA1 : Oper := { dst := some 5, op := Go.Op.load 3 (Go.Operand.tmp 4), type := 3, pos := "l14_disk.go:16", after := #[{ on := 0, ground := Go.Ground.data }], guard := none }
abbrev oA2 : Oper := { dst := some 6, op := Go.Op.call { callee := Go.Callee.value (Go.Operand.func 44), args := #[Go.Operand.tmp 5, Go.Operand.const (Go.Value.int Go.IntKind.i64 0), Go.Operand.const (Go.Value.int Go.IntKind.i64 60000)], argTypes := #[3, 3, 3] }, type := 4, pos := "l14_disk.go:16", after := #[{ on := 1, ground := Go.Ground.data }], guard := none }
abbrev oA3 : Oper := { dst := some 7, op := Go.Op.unOp Go.UnOp.not 4 (Go.Operand.tmp 6), type := 4, pos := "l14_disk.go:16", after := #[{ on := 2, ground := Go.Ground.data }], guard := none }
abbrev oA4 : Oper := { dst := some 8, op := Go.Op.move (Go.Operand.tmp 7), type := 4, pos := "l14_disk.go:16", after := #[{ on := 3, ground := Go.Ground.data }, { on := 2, ground := Go.Ground.chain }], guard := none }
abbrev oA5 : Oper := { dst := some 9, op := Go.Op.fieldAddr 26 (Go.Operand.tmp 1) 1, type := 0, pos := "l14_disk.go:16", after := #[{ on := 4, ground := Go.Ground.guard }], guard := some (4, false) }
abbrev oA6 : Oper := { dst := some 10, op := Go.Op.load 24 (Go.Operand.tmp 9), type := 24, pos := "l14_disk.go:16", after := #[{ on := 5, ground := Go.Ground.data }, { on := 4, ground := Go.Ground.guard }], guard := some (4, false) }
abbrev oA7 : Oper := { dst := some 11, op := Go.Op.call { callee := Go.Callee.builtin Go.Builtin.len, args := #[Go.Operand.tmp 10], argTypes := #[24] }, type := 3, pos := "l14_disk.go:16", after := #[{ on := 6, ground := Go.Ground.data }, { on := 4, ground := Go.Ground.guard }], guard := some (4, false) }
abbrev oA8 : Oper := { dst := some 12, op := Go.Op.binOp Go.BinOp.gtr 3 (Go.Operand.tmp 11) (Go.Operand.const (Go.Value.int Go.IntKind.i64 22)) 3, type := 4, pos := "l14_disk.go:16", after := #[{ on := 7, ground := Go.Ground.data }, { on := 4, ground := Go.Ground.guard }], guard := some (4, false) }
abbrev oA9 : Oper := { dst := some 13, op := Go.Op.pick (Go.Operand.tmp 8) (Go.Operand.const (Go.Value.bool true)) (Go.Operand.tmp 12), type := 4, pos := "l14_disk.go:16", after := #[{ on := 4, ground := Go.Ground.data }, { on := 8, ground := Go.Ground.data }], guard := none }
abbrev oA10 : Oper := { dst := some 14, op := Go.Op.move (Go.Operand.tmp 13), type := 4, pos := "l14_disk.go:16", after := #[{ on := 9, ground := Go.Ground.data }, { on := 4, ground := Go.Ground.chain }], guard := none }
abbrev oA11 : Oper := { dst := some 15, op := Go.Op.load 26 (Go.Operand.tmp 1), type := 26, pos := "l14_disk.go:16", after := #[{ on := 10, ground := Go.Ground.guard }], guard := some (10, false) }
abbrev oA12 : Oper := { dst := some 16, op := Go.Op.call { callee := Go.Callee.value (Go.Operand.func 45), args := #[Go.Operand.tmp 15], argTypes := #[26] }, type := 3, pos := "l14_disk.go:16", after := #[{ on := 11, ground := Go.Ground.data }, { on := 10, ground := Go.Ground.chain }, { on := 10, ground := Go.Ground.guard }], guard := some (10, false) }
abbrev oA13 : Oper := { dst := some 17, op := Go.Op.fieldAddr 26 (Go.Operand.tmp 1) 0, type := 0, pos := "l14_disk.go:16", after := #[{ on := 10, ground := Go.Ground.guard }], guard := some (10, false) }
abbrev oA14 : Oper := { dst := some 18, op := Go.Op.load 3 (Go.Operand.tmp 17), type := 3, pos := "l14_disk.go:16", after := #[{ on := 13, ground := Go.Ground.data }, { on := 10, ground := Go.Ground.guard }], guard := some (10, false) }
abbrev oA15 : Oper := { dst := some 19, op := Go.Op.binOp Go.BinOp.gtr 3 (Go.Operand.tmp 16) (Go.Operand.tmp 18) 3, type := 4, pos := "l14_disk.go:16", after := #[{ on := 12, ground := Go.Ground.data }, { on := 14, ground := Go.Ground.data }, { on := 10, ground := Go.Ground.guard }], guard := some (10, false) }
abbrev oA16 : Oper := { dst := some 20, op := Go.Op.pick (Go.Operand.tmp 14) (Go.Operand.const (Go.Value.bool true)) (Go.Operand.tmp 19), type := 4, pos := "l14_disk.go:16", after := #[{ on := 10, ground := Go.Ground.data }, { on := 15, ground := Go.Ground.data }], guard := none }
abbrev oB0 : Oper := { dst := some 28, op := Go.Op.fieldAddr 26 (Go.Operand.tmp 1) 1, type := 0, pos := "l14_disk.go:20", after := #[], guard := none }
abbrev oB1 : Oper := { dst := some 29, op := Go.Op.load 24 (Go.Operand.tmp 28), type := 24, pos := "l14_disk.go:20", after := #[{ on := 0, ground := Go.Ground.data }], guard := none }
abbrev oB2 : Oper := { dst := some 30, op := Go.Op.move (Go.Operand.tmp 3), type := 3, pos := "l14_disk.go:20", after := #[], guard := none }
abbrev oB3 : Oper := { dst := some 31, op := Go.Op.indexAddr 24 (Go.Operand.tmp 29) (Go.Operand.tmp 30), type := 0, pos := "l14_disk.go:20", after := #[{ on := 1, ground := Go.Ground.data }, { on := 2, ground := Go.Ground.data }], guard := none }
abbrev oB4 : Oper := { dst := some 32, op := Go.Op.fieldAddr 54 (Go.Operand.tmp 31) 0, type := 0, pos := "l14_disk.go:20", after := #[{ on := 3, ground := Go.Ground.data }], guard := none }
abbrev oB5 : Oper := { dst := some 33, op := Go.Op.load 3 (Go.Operand.tmp 32), type := 3, pos := "l14_disk.go:20", after := #[{ on := 4, ground := Go.Ground.data }], guard := none }
abbrev oB6 : Oper := { dst := some 34, op := Go.Op.call { callee := Go.Callee.value (Go.Operand.func 46), args := #[Go.Operand.tmp 33], argTypes := #[3] }, type := 4, pos := "l14_disk.go:20", after := #[{ on := 5, ground := Go.Ground.data }], guard := none }
abbrev oB7 : Oper := { dst := some 35, op := Go.Op.unOp Go.UnOp.not 4 (Go.Operand.tmp 34), type := 4, pos := "l14_disk.go:20", after := #[{ on := 6, ground := Go.Ground.data }], guard := none }
abbrev oB8 : Oper := { dst := some 36, op := Go.Op.move (Go.Operand.tmp 35), type := 4, pos := "l14_disk.go:20", after := #[{ on := 7, ground := Go.Ground.data }, { on := 6, ground := Go.Ground.chain }], guard := none }
abbrev oB9 : Oper := { dst := some 37, op := Go.Op.move (Go.Operand.tmp 3), type := 3, pos := "l14_disk.go:20", after := #[{ on := 8, ground := Go.Ground.guard }], guard := some (8, false) }
abbrev oB10 : Oper := { dst := some 38, op := Go.Op.binOp Go.BinOp.gtr 3 (Go.Operand.tmp 37) (Go.Operand.const (Go.Value.int Go.IntKind.i64 0)) 3, type := 4, pos := "l14_disk.go:20", after := #[{ on := 9, ground := Go.Ground.data }, { on := 8, ground := Go.Ground.guard }], guard := some (8, false) }
abbrev oB11 : Oper := { dst := some 39, op := Go.Op.move (Go.Operand.tmp 38), type := 4, pos := "l14_disk.go:20", after := #[{ on := 10, ground := Go.Ground.data }, { on := 8, ground := Go.Ground.chain }, { on := 8, ground := Go.Ground.guard }], guard := some (8, false) }
abbrev oB12 : Oper := { dst := some 40, op := Go.Op.fieldAddr 26 (Go.Operand.tmp 1) 1, type := 0, pos := "l14_disk.go:20", after := #[{ on := 11, ground := Go.Ground.guard }], guard := some (11, true) }
abbrev oB13 : Oper := { dst := some 41, op := Go.Op.load 24 (Go.Operand.tmp 40), type := 24, pos := "l14_disk.go:20", after := #[{ on := 12, ground := Go.Ground.data }, { on := 11, ground := Go.Ground.guard }], guard := some (11, true) }
abbrev oB14 : Oper := { dst := some 42, op := Go.Op.move (Go.Operand.tmp 3), type := 3, pos := "l14_disk.go:20", after := #[{ on := 11, ground := Go.Ground.guard }], guard := some (11, true) }
abbrev oB15 : Oper := { dst := some 43, op := Go.Op.binOp Go.BinOp.sub 3 (Go.Operand.tmp 42) (Go.Operand.const (Go.Value.int Go.IntKind.i64 1)) 3, type := 3, pos := "l14_disk.go:20", after := #[{ on := 14, ground := Go.Ground.data }, { on := 11, ground := Go.Ground.guard }], guard := some (11, true) }
abbrev oB16 : Oper := { dst := some 44, op := Go.Op.indexAddr 24 (Go.Operand.tmp 41) (Go.Operand.tmp 43), type := 0, pos := "l14_disk.go:20", after := #[{ on := 13, ground := Go.Ground.data }, { on := 15, ground := Go.Ground.data }, { on := 11, ground := Go.Ground.guard }], guard := some (11, true) }
abbrev oB17 : Oper := { dst := some 45, op := Go.Op.fieldAddr 54 (Go.Operand.tmp 44) 0, type := 0, pos := "l14_disk.go:20", after := #[{ on := 16, ground := Go.Ground.data }, { on := 11, ground := Go.Ground.guard }], guard := some (11, true) }
abbrev oB18 : Oper := { dst := some 46, op := Go.Op.load 3 (Go.Operand.tmp 45), type := 3, pos := "l14_disk.go:20", after := #[{ on := 17, ground := Go.Ground.data }, { on := 11, ground := Go.Ground.guard }], guard := some (11, true) }
abbrev oB19 : Oper := { dst := some 47, op := Go.Op.fieldAddr 26 (Go.Operand.tmp 1) 1, type := 0, pos := "l14_disk.go:20", after := #[{ on := 11, ground := Go.Ground.guard }], guard := some (11, true) }
abbrev oB20 : Oper := { dst := some 48, op := Go.Op.load 24 (Go.Operand.tmp 47), type := 24, pos := "l14_disk.go:20", after := #[{ on := 19, ground := Go.Ground.data }, { on := 11, ground := Go.Ground.guard }], guard := some (11, true) }
abbrev oB21 : Oper := { dst := some 49, op := Go.Op.move (Go.Operand.tmp 3), type := 3, pos := "l14_disk.go:20", after := #[{ on := 11, ground := Go.Ground.guard }], guard := some (11, true) }
abbrev oB22 : Oper := { dst := some 50, op := Go.Op.indexAddr 24 (Go.Operand.tmp 48) (Go.Operand.tmp 49), type := 0, pos := "l14_disk.go:20", after := #[{ on := 20, ground := Go.Ground.data }, { on := 21, ground := Go.Ground.data }, { on := 11, ground := Go.Ground.guard }], guard := some (11, true) }
abbrev oB23 : Oper := { dst := some 51, op := Go.Op.fieldAddr 54 (Go.Operand.tmp 50) 0, type := 0, pos := "l14_disk.go:20", after := #[{ on := 22, ground := Go.Ground.data }, { on := 11, ground := Go.Ground.guard }], guard := some (11, true) }
abbrev oB24 : Oper := { dst := some 52, op := Go.Op.load 3 (Go.Operand.tmp 51), type := 3, pos := "l14_disk.go:20", after := #[{ on := 23, ground := Go.Ground.data }, { on := 11, ground := Go.Ground.guard }], guard := some (11, true) }
abbrev oB25 : Oper := { dst := some 53, op := Go.Op.binOp Go.BinOp.geq 3 (Go.Operand.tmp 46) (Go.Operand.tmp 52) 3, type := 4, pos := "l14_disk.go:20", after := #[{ on := 18, ground := Go.Ground.data }, { on := 24, ground := Go.Ground.data }, { on := 11, ground := Go.Ground.guard }], guard := some (11, true) }
abbrev oB26 : Oper := { dst := some 54, op := Go.Op.pick (Go.Operand.tmp 39) (Go.Operand.tmp 53) (Go.Operand.const (Go.Value.bool false)), type := 4, pos := "l14_disk.go:20", after := #[{ on := 11, ground := Go.Ground.data }, { on := 25, ground := Go.Ground.data }, { on := 8, ground := Go.Ground.guard }], guard := some (8, false) }
abbrev oB27 : Oper := { dst := some 55, op := Go.Op.pick (Go.Operand.tmp 36) (Go.Operand.const (Go.Value.bool true)) (Go.Operand.tmp 54), type := 4, pos := "l14_disk.go:20", after := #[{ on := 8, ground := Go.Ground.data }, { on := 26, ground := Go.Ground.data }], guard := none }
set_option maxRecDepth 100000 in
set_option maxHeartbeats 4000000 in
theorem sDiskOk (w : World) (x : Dx) (hr : RdD w x) (hz : sumZ x.ps ≤ 1048576) :
    Calls Try.prog 17 #[.agg #[.int .i64 x.room, .slice x.a x.ps.length x.c]] w fun e w' => e = .returned (.bool (decide (OkD x.room x.ps))) ∧ Below w.heap.size w w' := by
  have W0 := hide (Wd.made hr 26)
  have h20 := hr.n
  clear hr
  by_cases q1 : 0 ≤ x.room ∧ x.room ≤ 60000
  case neg =>
    rw [decide_eq_false (fun h : OkD x.room x.ps => q1 h.1)]
    have D := hide (fun u => sInB u x.room 0 60000 false (decide_eq_false q1))
    clear q1
    go_enter Try.func17, Try.ntmps17
    go_wp2_with fail
    have c0 := (unhide W0).c0
    have c1 := (unhide W0).c1
    have lt := (unhide W0).lt
    have K4 := And.intro c0 c1
    generalize w.alloc (.cells #[.int .i64 x.room, .slice x.a x.ps.length x.c] 26) = W at *
    refine wp_region_held_drew (S := (fun w' => w'.cell? ⟨w.heap.size, 0, none⟩ = some (.int .i64 x.room) ∧ w'.cell? ⟨w.heap.size, 1, none⟩ = some (.slice x.a x.ps.length x.c))) (by kernel_rfl) K4 (fun hHeld => ?_)
    refine wpAnyH_take (i := 0) (oi := oA0) (v := .pointer (some ⟨w.heap.size, 0, none⟩)) rfl (by kernel_rfl) (by kernel_rfl) (by kernel_rfl) (fun _ _ _ h => h) (Or.inl ⟨by rfl, fun w hSw => ?_⟩) hHeld ?_
    · (try dsimp only at hSw)
      unfold oA0
      go_simp
    try simp only [oA0, Act.put, List.setIfInBounds_toArray, List.set_cons_zero, List.set_cons_succ]
    refine wpAnyH_take (i := 1) (oi := oA1) (v := .int .i64 x.room) rfl (by kernel_rfl) (by kernel_rfl) (by kernel_rfl) (fun _ _ _ h => h) (Or.inl ⟨by rfl, fun w hSw => ?_⟩) hHeld ?_
    · (try dsimp only at hSw)
      unfold oA1
      go_simp
    try simp only [oA1, Act.put, List.setIfInBounds_toArray, List.set_cons_zero, List.set_cons_succ]
    refine wpAnyH_ready (rs := [2]) (by kernel_rfl) (by simp) ?_
    refine AllReadyH.cons (o := oA2) rfl (fun K hK => ?_) AllReadyH.nil
    unfold oA2
    go_simp
    go_wp2_with fail
    refine (unhide D _).mono ?_
    rintro e w3 ⟨rfl, rfl⟩
    go_wp2_with fail
    refine hK.out _ _ K4 (fun hHeld => ?_)
    clear hK K
    try simp only [oA2, Act.put, List.setIfInBounds_toArray, List.set_cons_zero, List.set_cons_succ]
    refine wpAnyH_take (i := 3) (oi := oA3) (v := .bool true) rfl (by kernel_rfl) (by kernel_rfl) (by kernel_rfl) (fun _ _ _ h => h) (Or.inl ⟨by rfl, fun w hSw => ?_⟩) hHeld ?_
    · (try dsimp only at hSw)
      unfold oA3
      go_simp
    try simp only [oA3, Act.put, List.setIfInBounds_toArray, List.set_cons_zero, List.set_cons_succ]
    refine wpAnyH_take (i := 4) (oi := oA4) (v := .bool true) rfl (by kernel_rfl) (by kernel_rfl) (by kernel_rfl) (fun _ _ _ h => h) (Or.inl ⟨by rfl, fun w hSw => ?_⟩) hHeld ?_
    · (try dsimp only at hSw)
      unfold oA4
      go_simp
    try simp only [oA4, Act.put, List.setIfInBounds_toArray, List.set_cons_zero, List.set_cons_succ]
    refine wpAnyH_take (i := 5) (oi := oA5) (v := undef) rfl (by kernel_rfl) (by kernel_rfl) (by kernel_rfl) (fun _ _ _ h => h) (Or.inr ⟨by rfl, rfl⟩) hHeld ?_
    try simp only [oA5, Act.put, List.setIfInBounds_toArray, List.set_cons_zero, List.set_cons_succ]
    refine wpAnyH_take (i := 6) (oi := oA6) (v := undef) rfl (by kernel_rfl) (by kernel_rfl) (by kernel_rfl) (fun _ _ _ h => h) (Or.inr ⟨by rfl, rfl⟩) hHeld ?_
    try simp only [oA6, Act.put, List.setIfInBounds_toArray, List.set_cons_zero, List.set_cons_succ]
    refine wpAnyH_take (i := 7) (oi := oA7) (v := undef) rfl (by kernel_rfl) (by kernel_rfl) (by kernel_rfl) (fun _ _ _ h => h) (Or.inr ⟨by rfl, rfl⟩) hHeld ?_
    try simp only [oA7, Act.put, List.setIfInBounds_toArray, List.set_cons_zero, List.set_cons_succ]
    refine wpAnyH_take (i := 8) (oi := oA8) (v := undef) rfl (by kernel_rfl) (by kernel_rfl) (by kernel_rfl) (fun _ _ _ h => h) (Or.inr ⟨by rfl, rfl⟩) hHeld ?_
    try simp only [oA8, Act.put, List.setIfInBounds_toArray, List.set_cons_zero, List.set_cons_succ]
    refine wpAnyH_take (i := 9) (oi := oA9) (v := .bool true) rfl (by kernel_rfl) (by kernel_rfl) (by kernel_rfl) (fun _ _ _ h => h) (Or.inl ⟨by rfl, fun w hSw => ?_⟩) hHeld ?_
    · (try dsimp only at hSw)
      unfold oA9
      go_simp
    try simp only [oA9, Act.put, List.setIfInBounds_toArray, List.set_cons_zero, List.set_cons_succ]
    refine wpAnyH_take (i := 10) (oi := oA10) (v := .bool true) rfl (by kernel_rfl) (by kernel_rfl) (by kernel_rfl) (fun _ _ _ h => h) (Or.inl ⟨by rfl, fun w hSw => ?_⟩) hHeld ?_
    · (try dsimp only at hSw)
      unfold oA10
      go_simp
    try simp only [oA10, Act.put, List.setIfInBounds_toArray, List.set_cons_zero, List.set_cons_succ]
    refine wpAnyH_take (i := 11) (oi := oA11) (v := undef) rfl (by kernel_rfl) (by kernel_rfl) (by kernel_rfl) (fun _ _ _ h => h) (Or.inr ⟨by rfl, rfl⟩) hHeld ?_
    try simp only [oA11, Act.put, List.setIfInBounds_toArray, List.set_cons_zero, List.set_cons_succ]
    refine wpAnyH_take (i := 12) (oi := oA12) (v := undef) rfl (by kernel_rfl) (by kernel_rfl) (by kernel_rfl) (fun _ _ _ h => h) (Or.inr ⟨by rfl, rfl⟩) hHeld ?_
    try simp only [oA12, Act.put, List.setIfInBounds_toArray, List.set_cons_zero, List.set_cons_succ]
    refine wpAnyH_take (i := 13) (oi := oA13) (v := undef) rfl (by kernel_rfl) (by kernel_rfl) (by kernel_rfl) (fun _ _ _ h => h) (Or.inr ⟨by rfl, rfl⟩) hHeld ?_
    try simp only [oA13, Act.put, List.setIfInBounds_toArray, List.set_cons_zero, List.set_cons_succ]
    refine wpAnyH_take (i := 14) (oi := oA14) (v := undef) rfl (by kernel_rfl) (by kernel_rfl) (by kernel_rfl) (fun _ _ _ h => h) (Or.inr ⟨by rfl, rfl⟩) hHeld ?_
    try simp only [oA14, Act.put, List.setIfInBounds_toArray, List.set_cons_zero, List.set_cons_succ]
    refine wpAnyH_take (i := 15) (oi := oA15) (v := undef) rfl (by kernel_rfl) (by kernel_rfl) (by kernel_rfl) (fun _ _ _ h => h) (Or.inr ⟨by rfl, rfl⟩) hHeld ?_
    try simp only [oA15, Act.put, List.setIfInBounds_toArray, List.set_cons_zero, List.set_cons_succ]
    refine wpAnyH_take (i := 16) (oi := oA16) (v := .bool true) rfl (by kernel_rfl) (by kernel_rfl) (by kernel_rfl) (fun _ _ _ h => h) (Or.inl ⟨by rfl, fun w hSw => ?_⟩) hHeld ?_
    · (try dsimp only at hSw)
      unfold oA16
      go_simp
    try simp only [oA16, Act.put, List.setIfInBounds_toArray, List.set_cons_zero, List.set_cons_succ]
    refine wpAnyH_done (by kernel_rfl) ?_ _
    go_wp2
    go_ret
    exact ⟨rfl, (unhide W0).b.drew⟩
  have D := hide (fun u => sInB u x.room 0 60000 true (decide_eq_true q1))
  by_cases q2 : x.ps.length ≤ 22
  case neg =>
    rw [decide_eq_false (fun h : OkD x.room x.ps => q2 h.2.1)]
    have d2 : (x.ps.length : Int) > 22 := by omega
    clear q1
    go_enter Try.func17, Try.ntmps17
    go_wp2_with fail
    have c0 := (unhide W0).c0
    have c1 := (unhide W0).c1
    have lt := (unhide W0).lt
    have K4 := And.intro c0 c1
    generalize w.alloc (.cells #[.int .i64 x.room, .slice x.a x.ps.length x.c] 26) = W at *
    refine wp_region_held_drew (S := (fun w' => w'.cell? ⟨w.heap.size, 0, none⟩ = some (.int .i64 x.room) ∧ w'.cell? ⟨w.heap.size, 1, none⟩ = some (.slice x.a x.ps.length x.c))) (by kernel_rfl) K4 (fun hHeld => ?_)
    refine wpAnyH_take (i := 0) (oi := oA0) (v := .pointer (some ⟨w.heap.size, 0, none⟩)) rfl (by kernel_rfl) (by kernel_rfl) (by kernel_rfl) (fun _ _ _ h => h) (Or.inl ⟨by rfl, fun w hSw => ?_⟩) hHeld ?_
    · (try dsimp only at hSw)
      unfold oA0
      go_simp
    try simp only [oA0, Act.put, List.setIfInBounds_toArray, List.set_cons_zero, List.set_cons_succ]
    refine wpAnyH_take (i := 1) (oi := oA1) (v := .int .i64 x.room) rfl (by kernel_rfl) (by kernel_rfl) (by kernel_rfl) (fun _ _ _ h => h) (Or.inl ⟨by rfl, fun w hSw => ?_⟩) hHeld ?_
    · (try dsimp only at hSw)
      unfold oA1
      go_simp
    try simp only [oA1, Act.put, List.setIfInBounds_toArray, List.set_cons_zero, List.set_cons_succ]
    refine wpAnyH_ready (rs := [2]) (by kernel_rfl) (by simp) ?_
    refine AllReadyH.cons (o := oA2) rfl (fun K hK => ?_) AllReadyH.nil
    unfold oA2
    go_simp
    go_wp2_with fail
    refine (unhide D _).mono ?_
    rintro e w3 ⟨rfl, rfl⟩
    go_wp2_with fail
    refine hK.out _ _ K4 (fun hHeld => ?_)
    clear hK K
    try simp only [oA2, Act.put, List.setIfInBounds_toArray, List.set_cons_zero, List.set_cons_succ]
    refine wpAnyH_take (i := 3) (oi := oA3) (v := .bool false) rfl (by kernel_rfl) (by kernel_rfl) (by kernel_rfl) (fun _ _ _ h => h) (Or.inl ⟨by rfl, fun w hSw => ?_⟩) hHeld ?_
    · (try dsimp only at hSw)
      unfold oA3
      go_simp
    try simp only [oA3, Act.put, List.setIfInBounds_toArray, List.set_cons_zero, List.set_cons_succ]
    refine wpAnyH_take (i := 4) (oi := oA4) (v := .bool false) rfl (by kernel_rfl) (by kernel_rfl) (by kernel_rfl) (fun _ _ _ h => h) (Or.inl ⟨by rfl, fun w hSw => ?_⟩) hHeld ?_
    · (try dsimp only at hSw)
      unfold oA4
      go_simp
    try simp only [oA4, Act.put, List.setIfInBounds_toArray, List.set_cons_zero, List.set_cons_succ]
    refine wpAnyH_take (i := 5) (oi := oA5) (v := .pointer (some ⟨w.heap.size, 1, none⟩)) rfl (by kernel_rfl) (by kernel_rfl) (by kernel_rfl) (fun _ _ _ h => h) (Or.inl ⟨by rfl, fun w hSw => ?_⟩) hHeld ?_
    · (try dsimp only at hSw)
      unfold oA5
      go_simp
    try simp only [oA5, Act.put, List.setIfInBounds_toArray, List.set_cons_zero, List.set_cons_succ]
    refine wpAnyH_take (i := 6) (oi := oA6) (v := .slice x.a x.ps.length x.c) rfl (by kernel_rfl) (by kernel_rfl) (by kernel_rfl) (fun _ _ _ h => h) (Or.inl ⟨by rfl, fun w hSw => ?_⟩) hHeld ?_
    · (try dsimp only at hSw)
      unfold oA6
      go_simp
    try simp only [oA6, Act.put, List.setIfInBounds_toArray, List.set_cons_zero, List.set_cons_succ]
    refine wpAnyH_ready (rs := [7]) (by kernel_rfl) (by simp) ?_
    refine AllReadyH.cons (o := oA7) rfl (fun K hK => ?_) AllReadyH.nil
    unfold oA7
    go_simp
    refine hK.out _ _ K4 (fun hHeld => ?_)
    clear hK K
    try simp only [oA7, Act.put, List.setIfInBounds_toArray, List.set_cons_zero, List.set_cons_succ]
    refine wpAnyH_take (i := 8) (oi := oA8) (v := .bool true) rfl (by kernel_rfl) (by kernel_rfl) (by kernel_rfl) (fun _ _ _ h => h) (Or.inl ⟨by rfl, fun w hSw => ?_⟩) hHeld ?_
    · (try dsimp only at hSw)
      unfold oA8
      go_simp
    try simp only [oA8, Act.put, List.setIfInBounds_toArray, List.set_cons_zero, List.set_cons_succ]
    refine wpAnyH_take (i := 9) (oi := oA9) (v := .bool true) rfl (by kernel_rfl) (by kernel_rfl) (by kernel_rfl) (fun _ _ _ h => h) (Or.inl ⟨by rfl, fun w hSw => ?_⟩) hHeld ?_
    · (try dsimp only at hSw)
      unfold oA9
      go_simp
    try simp only [oA9, Act.put, List.setIfInBounds_toArray, List.set_cons_zero, List.set_cons_succ]
    refine wpAnyH_take (i := 10) (oi := oA10) (v := .bool true) rfl (by kernel_rfl) (by kernel_rfl) (by kernel_rfl) (fun _ _ _ h => h) (Or.inl ⟨by rfl, fun w hSw => ?_⟩) hHeld ?_
    · (try dsimp only at hSw)
      unfold oA10
      go_simp
    try simp only [oA10, Act.put, List.setIfInBounds_toArray, List.set_cons_zero, List.set_cons_succ]
    refine wpAnyH_take (i := 11) (oi := oA11) (v := undef) rfl (by kernel_rfl) (by kernel_rfl) (by kernel_rfl) (fun _ _ _ h => h) (Or.inr ⟨by rfl, rfl⟩) hHeld ?_
    try simp only [oA11, Act.put, List.setIfInBounds_toArray, List.set_cons_zero, List.set_cons_succ]
    refine wpAnyH_take (i := 12) (oi := oA12) (v := undef) rfl (by kernel_rfl) (by kernel_rfl) (by kernel_rfl) (fun _ _ _ h => h) (Or.inr ⟨by rfl, rfl⟩) hHeld ?_
    try simp only [oA12, Act.put, List.setIfInBounds_toArray, List.set_cons_zero, List.set_cons_succ]
    refine wpAnyH_take (i := 13) (oi := oA13) (v := undef) rfl (by kernel_rfl) (by kernel_rfl) (by kernel_rfl) (fun _ _ _ h => h) (Or.inr ⟨by rfl, rfl⟩) hHeld ?_
    try simp only [oA13, Act.put, List.setIfInBounds_toArray, List.set_cons_zero, List.set_cons_succ]
    refine wpAnyH_take (i := 14) (oi := oA14) (v := undef) rfl (by kernel_rfl) (by kernel_rfl) (by kernel_rfl) (fun _ _ _ h => h) (Or.inr ⟨by rfl, rfl⟩) hHeld ?_
    try simp only [oA14, Act.put, List.setIfInBounds_toArray, List.set_cons_zero, List.set_cons_succ]
    refine wpAnyH_take (i := 15) (oi := oA15) (v := undef) rfl (by kernel_rfl) (by kernel_rfl) (by kernel_rfl) (fun _ _ _ h => h) (Or.inr ⟨by rfl, rfl⟩) hHeld ?_
    try simp only [oA15, Act.put, List.setIfInBounds_toArray, List.set_cons_zero, List.set_cons_succ]
    refine wpAnyH_take (i := 16) (oi := oA16) (v := .bool true) rfl (by kernel_rfl) (by kernel_rfl) (by kernel_rfl) (fun _ _ _ h => h) (Or.inl ⟨by rfl, fun w hSw => ?_⟩) hHeld ?_
    · (try dsimp only at hSw)
      unfold oA16
      go_simp
    try simp only [oA16, Act.put, List.setIfInBounds_toArray, List.set_cons_zero, List.set_cons_succ]
    refine wpAnyH_done (by kernel_rfl) ?_ _
    go_wp2
    go_ret
    exact ⟨rfl, (unhide W0).b.drew⟩
  have d2 : ¬ (x.ps.length : Int) > 22 := by omega
  have Q := hide (And.intro q1 q2)
  by_cases q3 : (sumZ x.ps : Int) ≤ x.room
  case neg =>
    rw [decide_eq_false (fun h : OkD x.room x.ps => q3 h.2.2.1)]
    have d3 : (sumZ x.ps : Int) > x.room := by omega
    clear q1
    go_enter Try.func17, Try.ntmps17
    go_wp2_with fail
    have c0 := (unhide W0).c0
    have c1 := (unhide W0).c1
    have lt := (unhide W0).lt
    have K4 := And.intro c0 c1
    generalize w.alloc (.cells #[.int .i64 x.room, .slice x.a x.ps.length x.c] 26) = W at *
    refine wp_region_held_drew (S := (fun w' => w'.cell? ⟨w.heap.size, 0, none⟩ = some (.int .i64 x.room) ∧ w'.cell? ⟨w.heap.size, 1, none⟩ = some (.slice x.a x.ps.length x.c))) (by kernel_rfl) K4 (fun hHeld => ?_)
    refine wpAnyH_take (i := 0) (oi := oA0) (v := .pointer (some ⟨w.heap.size, 0, none⟩)) rfl (by kernel_rfl) (by kernel_rfl) (by kernel_rfl) (fun _ _ _ h => h) (Or.inl ⟨by rfl, fun w hSw => ?_⟩) hHeld ?_
    · (try dsimp only at hSw)
      unfold oA0
      go_simp
    try simp only [oA0, Act.put, List.setIfInBounds_toArray, List.set_cons_zero, List.set_cons_succ]
    refine wpAnyH_take (i := 1) (oi := oA1) (v := .int .i64 x.room) rfl (by kernel_rfl) (by kernel_rfl) (by kernel_rfl) (fun _ _ _ h => h) (Or.inl ⟨by rfl, fun w hSw => ?_⟩) hHeld ?_
    · (try dsimp only at hSw)
      unfold oA1
      go_simp
    try simp only [oA1, Act.put, List.setIfInBounds_toArray, List.set_cons_zero, List.set_cons_succ]
    refine wpAnyH_ready (rs := [2]) (by kernel_rfl) (by simp) ?_
    refine AllReadyH.cons (o := oA2) rfl (fun K hK => ?_) AllReadyH.nil
    unfold oA2
    go_simp
    go_wp2_with fail
    refine (unhide D _).mono ?_
    rintro e w3 ⟨rfl, rfl⟩
    go_wp2_with fail
    refine hK.out _ _ K4 (fun hHeld => ?_)
    clear hK K
    try simp only [oA2, Act.put, List.setIfInBounds_toArray, List.set_cons_zero, List.set_cons_succ]
    refine wpAnyH_take (i := 3) (oi := oA3) (v := .bool false) rfl (by kernel_rfl) (by kernel_rfl) (by kernel_rfl) (fun _ _ _ h => h) (Or.inl ⟨by rfl, fun w hSw => ?_⟩) hHeld ?_
    · (try dsimp only at hSw)
      unfold oA3
      go_simp
    try simp only [oA3, Act.put, List.setIfInBounds_toArray, List.set_cons_zero, List.set_cons_succ]
    refine wpAnyH_take (i := 4) (oi := oA4) (v := .bool false) rfl (by kernel_rfl) (by kernel_rfl) (by kernel_rfl) (fun _ _ _ h => h) (Or.inl ⟨by rfl, fun w hSw => ?_⟩) hHeld ?_
    · (try dsimp only at hSw)
      unfold oA4
      go_simp
    try simp only [oA4, Act.put, List.setIfInBounds_toArray, List.set_cons_zero, List.set_cons_succ]
    refine wpAnyH_take (i := 5) (oi := oA5) (v := .pointer (some ⟨w.heap.size, 1, none⟩)) rfl (by kernel_rfl) (by kernel_rfl) (by kernel_rfl) (fun _ _ _ h => h) (Or.inl ⟨by rfl, fun w hSw => ?_⟩) hHeld ?_
    · (try dsimp only at hSw)
      unfold oA5
      go_simp
    try simp only [oA5, Act.put, List.setIfInBounds_toArray, List.set_cons_zero, List.set_cons_succ]
    refine wpAnyH_take (i := 6) (oi := oA6) (v := .slice x.a x.ps.length x.c) rfl (by kernel_rfl) (by kernel_rfl) (by kernel_rfl) (fun _ _ _ h => h) (Or.inl ⟨by rfl, fun w hSw => ?_⟩) hHeld ?_
    · (try dsimp only at hSw)
      unfold oA6
      go_simp
    try simp only [oA6, Act.put, List.setIfInBounds_toArray, List.set_cons_zero, List.set_cons_succ]
    refine wpAnyH_ready (rs := [7]) (by kernel_rfl) (by simp) ?_
    refine AllReadyH.cons (o := oA7) rfl (fun K hK => ?_) AllReadyH.nil
    unfold oA7
    go_simp
    refine hK.out _ _ K4 (fun hHeld => ?_)
    clear hK K
    try simp only [oA7, Act.put, List.setIfInBounds_toArray, List.set_cons_zero, List.set_cons_succ]
    refine wpAnyH_take (i := 8) (oi := oA8) (v := .bool false) rfl (by kernel_rfl) (by kernel_rfl) (by kernel_rfl) (fun _ _ _ h => h) (Or.inl ⟨by rfl, fun w hSw => ?_⟩) hHeld ?_
    · (try dsimp only at hSw)
      unfold oA8
      go_simp
    try simp only [oA8, Act.put, List.setIfInBounds_toArray, List.set_cons_zero, List.set_cons_succ]
    refine wpAnyH_take (i := 9) (oi := oA9) (v := .bool false) rfl (by kernel_rfl) (by kernel_rfl) (by kernel_rfl) (fun _ _ _ h => h) (Or.inl ⟨by rfl, fun w hSw => ?_⟩) hHeld ?_
    · (try dsimp only at hSw)
      unfold oA9
      go_simp
    try simp only [oA9, Act.put, List.setIfInBounds_toArray, List.set_cons_zero, List.set_cons_succ]
    refine wpAnyH_take (i := 10) (oi := oA10) (v := .bool false) rfl (by kernel_rfl) (by kernel_rfl) (by kernel_rfl) (fun _ _ _ h => h) (Or.inl ⟨by rfl, fun w hSw => ?_⟩) hHeld ?_
    · (try dsimp only at hSw)
      unfold oA10
      go_simp
    try simp only [oA10, Act.put, List.setIfInBounds_toArray, List.set_cons_zero, List.set_cons_succ]
    refine wpAnyH_take (i := 11) (oi := oA11) (v := .agg #[.int .i64 x.room, .slice x.a x.ps.length x.c]) rfl (by kernel_rfl) (by kernel_rfl) (by kernel_rfl) (fun _ _ _ h => h) (Or.inl ⟨by rfl, fun w hSw => ?_⟩) hHeld ?_
    · (try dsimp only at hSw)
      unfold oA11
      go_simp
    try simp only [oA11, Act.put, List.setIfInBounds_toArray, List.set_cons_zero, List.set_cons_succ]
    refine wpAnyH_take (i := 13) (oi := oA13) (v := .pointer (some ⟨w.heap.size, 0, none⟩)) rfl (by kernel_rfl) (by kernel_rfl) (by kernel_rfl) (fun _ _ _ h => h) (Or.inl ⟨by rfl, fun w hSw => ?_⟩) hHeld ?_
    · (try dsimp only at hSw)
      unfold oA13
      go_simp
    try simp only [oA13, Act.put, List.setIfInBounds_toArray, List.set_cons_zero, List.set_cons_succ]
    refine wpAnyH_take (i := 14) (oi := oA14) (v := .int .i64 x.room) rfl (by kernel_rfl) (by kernel_rfl) (by kernel_rfl) (fun _ _ _ h => h) (Or.inl ⟨by rfl, fun w hSw => ?_⟩) hHeld ?_
    · (try dsimp only at hSw)
      unfold oA14
      go_simp
    try simp only [oA14, Act.put, List.setIfInBounds_toArray, List.set_cons_zero, List.set_cons_succ]
    refine wpAnyH_ready (rs := [12]) (by kernel_rfl) (by simp) ?_
    refine AllReadyH.cons (o := oA12) rfl (fun K hK => ?_) AllReadyH.nil
    unfold oA12
    go_simp
    go_wp2_with fail
    refine (sSize _ x (unhide W0).drew.r hz).mono ?_
    rintro e w4 ⟨rfl, bb⟩
    have bW := hide (below_of_drew bb)
    have W4 := hide ((unhide W0).step (unhide bW))
    have K5 := And.intro (unhide W4).c0 (unhide W4).c1
    clear bb
    go_wp2_with fail
    refine hK.out _ _ K5 (fun hHeld => ?_)
    clear hK K
    try simp only [oA12, Act.put, List.setIfInBounds_toArray, List.set_cons_zero, List.set_cons_succ]
    refine wpAnyH_take (i := 15) (oi := oA15) (v := .bool true) rfl (by kernel_rfl) (by kernel_rfl) (by kernel_rfl) (fun _ _ _ h => h) (Or.inl ⟨by rfl, fun w hSw => ?_⟩) hHeld ?_
    · (try dsimp only at hSw)
      unfold oA15
      go_simp
    try simp only [oA15, Act.put, List.setIfInBounds_toArray, List.set_cons_zero, List.set_cons_succ]
    refine wpAnyH_take (i := 16) (oi := oA16) (v := .bool true) rfl (by kernel_rfl) (by kernel_rfl) (by kernel_rfl) (fun _ _ _ h => h) (Or.inl ⟨by rfl, fun w hSw => ?_⟩) hHeld ?_
    · (try dsimp only at hSw)
      unfold oA16
      go_simp
    try simp only [oA16, Act.put, List.setIfInBounds_toArray, List.set_cons_zero, List.set_cons_succ]
    refine wpAnyH_done (by kernel_rfl) ?_ _
    go_wp2
    go_ret
    exact ⟨rfl, (unhide W4).b⟩
  have d3 : ¬ (sumZ x.ps : Int) > x.room := by omega
  go_enter Try.func17, Try.ntmps17
  go_wp2_with fail
  have c0 := (unhide W0).c0
  have c1 := (unhide W0).c1
  have lt := (unhide W0).lt
  have K4 := And.intro c0 c1
  generalize w.alloc (.cells #[.int .i64 x.room, .slice x.a x.ps.length x.c] 26) = W at *
  refine wp_region_held_drew (S := (fun w' => w'.cell? ⟨w.heap.size, 0, none⟩ = some (.int .i64 x.room) ∧ w'.cell? ⟨w.heap.size, 1, none⟩ = some (.slice x.a x.ps.length x.c))) (by kernel_rfl) K4 (fun hHeld => ?_)
  refine wpAnyH_take (i := 0) (oi := oA0) (v := .pointer (some ⟨w.heap.size, 0, none⟩)) rfl (by kernel_rfl) (by kernel_rfl) (by kernel_rfl) (fun _ _ _ h => h) (Or.inl ⟨by rfl, fun w hSw => ?_⟩) hHeld ?_
  · (try dsimp only at hSw)
    unfold oA0
    go_simp
  try simp only [oA0, Act.put, List.setIfInBounds_toArray, List.set_cons_zero, List.set_cons_succ]
  refine wpAnyH_take (i := 1) (oi := oA1) (v := .int .i64 x.room) rfl (by kernel_rfl) (by kernel_rfl) (by kernel_rfl) (fun _ _ _ h => h) (Or.inl ⟨by rfl, fun w hSw => ?_⟩) hHeld ?_
  · (try dsimp only at hSw)
    unfold oA1
    go_simp
  try simp only [oA1, Act.put, List.setIfInBounds_toArray, List.set_cons_zero, List.set_cons_succ]
  refine wpAnyH_ready (rs := [2]) (by kernel_rfl) (by simp) ?_
  refine AllReadyH.cons (o := oA2) rfl (fun K hK => ?_) AllReadyH.nil
  unfold oA2
  go_simp
  go_wp2_with fail
  refine (unhide D _).mono ?_
  rintro e w3 ⟨rfl, rfl⟩
  go_wp2_with fail
  refine hK.out _ _ K4 (fun hHeld => ?_)
  clear hK K
  try simp only [oA2, Act.put, List.setIfInBounds_toArray, List.set_cons_zero, List.set_cons_succ]
  refine wpAnyH_take (i := 3) (oi := oA3) (v := .bool false) rfl (by kernel_rfl) (by kernel_rfl) (by kernel_rfl) (fun _ _ _ h => h) (Or.inl ⟨by rfl, fun w hSw => ?_⟩) hHeld ?_
  · (try dsimp only at hSw)
    unfold oA3
    go_simp
  try simp only [oA3, Act.put, List.setIfInBounds_toArray, List.set_cons_zero, List.set_cons_succ]
  refine wpAnyH_take (i := 4) (oi := oA4) (v := .bool false) rfl (by kernel_rfl) (by kernel_rfl) (by kernel_rfl) (fun _ _ _ h => h) (Or.inl ⟨by rfl, fun w hSw => ?_⟩) hHeld ?_
  · (try dsimp only at hSw)
    unfold oA4
    go_simp
  try simp only [oA4, Act.put, List.setIfInBounds_toArray, List.set_cons_zero, List.set_cons_succ]
  refine wpAnyH_take (i := 5) (oi := oA5) (v := .pointer (some ⟨w.heap.size, 1, none⟩)) rfl (by kernel_rfl) (by kernel_rfl) (by kernel_rfl) (fun _ _ _ h => h) (Or.inl ⟨by rfl, fun w hSw => ?_⟩) hHeld ?_
  · (try dsimp only at hSw)
    unfold oA5
    go_simp
  try simp only [oA5, Act.put, List.setIfInBounds_toArray, List.set_cons_zero, List.set_cons_succ]
  refine wpAnyH_take (i := 6) (oi := oA6) (v := .slice x.a x.ps.length x.c) rfl (by kernel_rfl) (by kernel_rfl) (by kernel_rfl) (fun _ _ _ h => h) (Or.inl ⟨by rfl, fun w hSw => ?_⟩) hHeld ?_
  · (try dsimp only at hSw)
    unfold oA6
    go_simp
  try simp only [oA6, Act.put, List.setIfInBounds_toArray, List.set_cons_zero, List.set_cons_succ]
  refine wpAnyH_ready (rs := [7]) (by kernel_rfl) (by simp) ?_
  refine AllReadyH.cons (o := oA7) rfl (fun K hK => ?_) AllReadyH.nil
  unfold oA7
  go_simp
  refine hK.out _ _ K4 (fun hHeld => ?_)
  clear hK K
  try simp only [oA7, Act.put, List.setIfInBounds_toArray, List.set_cons_zero, List.set_cons_succ]
  refine wpAnyH_take (i := 8) (oi := oA8) (v := .bool false) rfl (by kernel_rfl) (by kernel_rfl) (by kernel_rfl) (fun _ _ _ h => h) (Or.inl ⟨by rfl, fun w hSw => ?_⟩) hHeld ?_
  · (try dsimp only at hSw)
    unfold oA8
    go_simp
  try simp only [oA8, Act.put, List.setIfInBounds_toArray, List.set_cons_zero, List.set_cons_succ]
  refine wpAnyH_take (i := 9) (oi := oA9) (v := .bool false) rfl (by kernel_rfl) (by kernel_rfl) (by kernel_rfl) (fun _ _ _ h => h) (Or.inl ⟨by rfl, fun w hSw => ?_⟩) hHeld ?_
  · (try dsimp only at hSw)
    unfold oA9
    go_simp
  try simp only [oA9, Act.put, List.setIfInBounds_toArray, List.set_cons_zero, List.set_cons_succ]
  refine wpAnyH_take (i := 10) (oi := oA10) (v := .bool false) rfl (by kernel_rfl) (by kernel_rfl) (by kernel_rfl) (fun _ _ _ h => h) (Or.inl ⟨by rfl, fun w hSw => ?_⟩) hHeld ?_
  · (try dsimp only at hSw)
    unfold oA10
    go_simp
  try simp only [oA10, Act.put, List.setIfInBounds_toArray, List.set_cons_zero, List.set_cons_succ]
  refine wpAnyH_take (i := 11) (oi := oA11) (v := .agg #[.int .i64 x.room, .slice x.a x.ps.length x.c]) rfl (by kernel_rfl) (by kernel_rfl) (by kernel_rfl) (fun _ _ _ h => h) (Or.inl ⟨by rfl, fun w hSw => ?_⟩) hHeld ?_
  · (try dsimp only at hSw)
    unfold oA11
    go_simp
  try simp only [oA11, Act.put, List.setIfInBounds_toArray, List.set_cons_zero, List.set_cons_succ]
  refine wpAnyH_take (i := 13) (oi := oA13) (v := .pointer (some ⟨w.heap.size, 0, none⟩)) rfl (by kernel_rfl) (by kernel_rfl) (by kernel_rfl) (fun _ _ _ h => h) (Or.inl ⟨by rfl, fun w hSw => ?_⟩) hHeld ?_
  · (try dsimp only at hSw)
    unfold oA13
    go_simp
  try simp only [oA13, Act.put, List.setIfInBounds_toArray, List.set_cons_zero, List.set_cons_succ]
  refine wpAnyH_take (i := 14) (oi := oA14) (v := .int .i64 x.room) rfl (by kernel_rfl) (by kernel_rfl) (by kernel_rfl) (fun _ _ _ h => h) (Or.inl ⟨by rfl, fun w hSw => ?_⟩) hHeld ?_
  · (try dsimp only at hSw)
    unfold oA14
    go_simp
  try simp only [oA14, Act.put, List.setIfInBounds_toArray, List.set_cons_zero, List.set_cons_succ]
  refine wpAnyH_ready (rs := [12]) (by kernel_rfl) (by simp) ?_
  refine AllReadyH.cons (o := oA12) rfl (fun K hK => ?_) AllReadyH.nil
  unfold oA12
  go_simp
  go_wp2_with fail
  refine (sSize _ x (unhide W0).drew.r hz).mono ?_
  rintro e w4 ⟨rfl, bb⟩
  have bW := hide (below_of_drew bb)
  have W4 := hide ((unhide W0).step (unhide bW))
  have K5 := And.intro (unhide W4).c0 (unhide W4).c1
  clear bb
  go_wp2_with fail
  refine hK.out _ _ K5 (fun hHeld => ?_)
  clear hK K
  try simp only [oA12, Act.put, List.setIfInBounds_toArray, List.set_cons_zero, List.set_cons_succ]
  refine wpAnyH_take (i := 15) (oi := oA15) (v := .bool false) rfl (by kernel_rfl) (by kernel_rfl) (by kernel_rfl) (fun _ _ _ h => h) (Or.inl ⟨by rfl, fun w hSw => ?_⟩) hHeld ?_
  · (try dsimp only at hSw)
    unfold oA15
    go_simp
  try simp only [oA15, Act.put, List.setIfInBounds_toArray, List.set_cons_zero, List.set_cons_succ]
  refine wpAnyH_take (i := 16) (oi := oA16) (v := .bool false) rfl (by kernel_rfl) (by kernel_rfl) (by kernel_rfl) (fun _ _ _ h => h) (Or.inl ⟨by rfl, fun w hSw => ?_⟩) hHeld ?_
  · (try dsimp only at hSw)
    unfold oA16
    go_simp
  try simp only [oA16, Act.put, List.setIfInBounds_toArray, List.set_cons_zero, List.set_cons_succ]
  refine wpAnyH_done (by kernel_rfl) ?_ _
  clear W0 K4 K5 c0 c1 lt D bW
  have OK := hide (fun h : ∀ i, i < x.ps.length → okAt x.ps i => decide_eq_true (show OkD x.room x.ps from ⟨(unhide Q).1, (unhide Q).2, q3, h⟩))
  clear q1
  go_wp2_with fail
  go_loopw [3] (fun i wr => ∃ (k : Nat), k ≤ x.ps.length ∧ i = .int .i64 k ∧ Hid (∀ j, j < k → okAt x.ps j) ∧ Hid (Wd w wr x)) (fun i _ => x.ps.length - (intOf i).toNat)
  case atStart => exact ⟨0, by omega, rfl, hide (fun j h => absurd h (by omega)), W4⟩
  case round =>
    clear W4 hHeld
    obtain ⟨k, hk, rfl, HY, HW⟩ := hrel
    have c1 := (unhide HW).c1
    have lt := (unhide HW).lt
    by_cases t : k < x.ps.length
    · have kt : (k : Int) < x.ps.length := by omega
      obtain ⟨g, ea, lg, d0, _, _⟩ := cells_of (unhide HW).r t
      have NX := hide (fun (e : okAt x.ps k) j (h : j < k + 1) => show okAt x.ps j from by
        by_cases q : j = k
        · subst q; exact e
        · exact (unhide HY) j (by omega))
      have BAD := hide (fun e : ¬ okAt x.ps k => decide_eq_false (fun h : OkD x.room x.ps => e (h.2.2.2 k t)))
      have NM0 := hide (fun u => sName u (elF x.ps k).1)
      have DF := hide (show okAt x.ps k ↔ okN (elF x.ps k).1 = true ∧ (0 < k → (elF x.ps (k - 1)).1 < (elF x.ps k).1) from Iff.rfl)
      rw [ea] at c1
      have RD := hide (fun (h : 0 < k) => (((unhide HW).r.r g ea).2 (k - 1) (by omega)).1)
      have EY : Hid (∃ y, y = (elF x.ps (k - 1)).1) := ⟨_, rfl⟩
      obtain ⟨y, ey⟩ := unhide EY
      rw [← ey] at DF RD
      generalize okAt x.ps k = OA at *
      generalize (elF x.ps k).1 = z at *
      clear ey EY HY ea
      cases qb : okN z
      · have F := hide ((unhide BAD) (fun h => by have := ((unhide DF).1 h).1; rw [qb] at this; exact absurd this (by simp)))
        have NM := hide (fun u => by have := (unhide NM0) u; rw [qb] at this; exact this)
        have K6 := And.intro c1 d0
        clear BAD NX DF RD NM0 OK
        go_wp2_with fail
        refine wp_region_held_drew (S := (fun w' => w'.cell? ⟨w.heap.size, 1, none⟩ = some (.slice (some ⟨g, 0, none⟩) x.ps.length x.c) ∧ w'.cell? ⟨g, k * 3, none⟩ = some (.int .i64 z))) (by kernel_rfl) K6 (fun hHeld => ?_)
        refine wpAnyH_take (i := 0) (oi := oB0) (v := .pointer (some ⟨w.heap.size, 1, none⟩)) rfl (by kernel_rfl) (by kernel_rfl) (by kernel_rfl) (fun _ _ _ h => h) (Or.inl ⟨by rfl, fun w hSw => ?_⟩) hHeld ?_
        · (try dsimp only at hSw)
          unfold oB0
          go_simp
        try simp only [oB0, Act.put, List.setIfInBounds_toArray, List.set_cons_zero, List.set_cons_succ]
        refine wpAnyH_take (i := 1) (oi := oB1) (v := .slice (some ⟨g, 0, none⟩) x.ps.length x.c) rfl (by kernel_rfl) (by kernel_rfl) (by kernel_rfl) (fun _ _ _ h => h) (Or.inl ⟨by rfl, fun w hSw => ?_⟩) hHeld ?_
        · (try dsimp only at hSw)
          unfold oB1
          go_simp
        try simp only [oB1, Act.put, List.setIfInBounds_toArray, List.set_cons_zero, List.set_cons_succ]
        refine wpAnyH_take (i := 2) (oi := oB2) (v := .int .i64 k) rfl (by kernel_rfl) (by kernel_rfl) (by kernel_rfl) (fun _ _ _ h => h) (Or.inl ⟨by rfl, fun w hSw => ?_⟩) hHeld ?_
        · (try dsimp only at hSw)
          unfold oB2
          go_simp
        try simp only [oB2, Act.put, List.setIfInBounds_toArray, List.set_cons_zero, List.set_cons_succ]
        refine wpAnyH_take (i := 3) (oi := oB3) (v := .pointer (some ⟨g, k * 3, none⟩)) rfl (by kernel_rfl) (by kernel_rfl) (by kernel_rfl) (fun _ _ _ h => h) (Or.inl ⟨by rfl, fun w hSw => ?_⟩) hHeld ?_
        · (try dsimp only at hSw)
          unfold oB3
          go_simp
        try simp only [oB3, Act.put, List.setIfInBounds_toArray, List.set_cons_zero, List.set_cons_succ]
        refine wpAnyH_take (i := 4) (oi := oB4) (v := .pointer (some ⟨g, k * 3, none⟩)) rfl (by kernel_rfl) (by kernel_rfl) (by kernel_rfl) (fun _ _ _ h => h) (Or.inl ⟨by rfl, fun w hSw => ?_⟩) hHeld ?_
        · (try dsimp only at hSw)
          unfold oB4
          go_simp
        try simp only [oB4, Act.put, List.setIfInBounds_toArray, List.set_cons_zero, List.set_cons_succ]
        refine wpAnyH_take (i := 5) (oi := oB5) (v := .int .i64 z) rfl (by kernel_rfl) (by kernel_rfl) (by kernel_rfl) (fun _ _ _ h => h) (Or.inl ⟨by rfl, fun w hSw => ?_⟩) hHeld ?_
        · (try dsimp only at hSw)
          unfold oB5
          go_simp
        try simp only [oB5, Act.put, List.setIfInBounds_toArray, List.set_cons_zero, List.set_cons_succ]
        refine wpAnyH_ready (rs := [6]) (by kernel_rfl) (by simp) ?_
        refine AllReadyH.cons (o := oB6) rfl (fun K hK => ?_) AllReadyH.nil
        unfold oB6
        go_simp
        go_wp2_with fail
        refine (unhide NM _).mono ?_
        rintro e w5 ⟨rfl, rfl⟩
        go_wp2_with fail
        refine hK.out _ _ K6 (fun hHeld => ?_)
        clear hK K
        try simp only [oB6, Act.put, List.setIfInBounds_toArray, List.set_cons_zero, List.set_cons_succ]
        refine wpAnyH_take (i := 7) (oi := oB7) (v := .bool true) rfl (by kernel_rfl) (by kernel_rfl) (by kernel_rfl) (fun _ _ _ h => h) (Or.inl ⟨by rfl, fun w hSw => ?_⟩) hHeld ?_
        · (try dsimp only at hSw)
          unfold oB7
          go_simp
        try simp only [oB7, Act.put, List.setIfInBounds_toArray, List.set_cons_zero, List.set_cons_succ]
        refine wpAnyH_take (i := 8) (oi := oB8) (v := .bool true) rfl (by kernel_rfl) (by kernel_rfl) (by kernel_rfl) (fun _ _ _ h => h) (Or.inl ⟨by rfl, fun w hSw => ?_⟩) hHeld ?_
        · (try dsimp only at hSw)
          unfold oB8
          go_simp
        try simp only [oB8, Act.put, List.setIfInBounds_toArray, List.set_cons_zero, List.set_cons_succ]
        refine wpAnyH_take (i := 9) (oi := oB9) (v := undef) rfl (by kernel_rfl) (by kernel_rfl) (by kernel_rfl) (fun _ _ _ h => h) (Or.inr ⟨by rfl, rfl⟩) hHeld ?_
        try simp only [oB9, Act.put, List.setIfInBounds_toArray, List.set_cons_zero, List.set_cons_succ]
        refine wpAnyH_take (i := 10) (oi := oB10) (v := undef) rfl (by kernel_rfl) (by kernel_rfl) (by kernel_rfl) (fun _ _ _ h => h) (Or.inr ⟨by rfl, rfl⟩) hHeld ?_
        try simp only [oB10, Act.put, List.setIfInBounds_toArray, List.set_cons_zero, List.set_cons_succ]
        refine wpAnyH_take (i := 11) (oi := oB11) (v := undef) rfl (by kernel_rfl) (by kernel_rfl) (by kernel_rfl) (fun _ _ _ h => h) (Or.inr ⟨by rfl, rfl⟩) hHeld ?_
        try simp only [oB11, Act.put, List.setIfInBounds_toArray, List.set_cons_zero, List.set_cons_succ]
        refine wpAnyH_take (i := 12) (oi := oB12) (v := undef) rfl (by kernel_rfl) (by kernel_rfl) (by kernel_rfl) (fun _ _ _ h => h) (Or.inr ⟨by rfl, rfl⟩) hHeld ?_
        try simp only [oB12, Act.put, List.setIfInBounds_toArray, List.set_cons_zero, List.set_cons_succ]
        refine wpAnyH_take (i := 13) (oi := oB13) (v := undef) rfl (by kernel_rfl) (by kernel_rfl) (by kernel_rfl) (fun _ _ _ h => h) (Or.inr ⟨by rfl, rfl⟩) hHeld ?_
        try simp only [oB13, Act.put, List.setIfInBounds_toArray, List.set_cons_zero, List.set_cons_succ]
        refine wpAnyH_take (i := 14) (oi := oB14) (v := undef) rfl (by kernel_rfl) (by kernel_rfl) (by kernel_rfl) (fun _ _ _ h => h) (Or.inr ⟨by rfl, rfl⟩) hHeld ?_
        try simp only [oB14, Act.put, List.setIfInBounds_toArray, List.set_cons_zero, List.set_cons_succ]
        refine wpAnyH_take (i := 15) (oi := oB15) (v := undef) rfl (by kernel_rfl) (by kernel_rfl) (by kernel_rfl) (fun _ _ _ h => h) (Or.inr ⟨by rfl, rfl⟩) hHeld ?_
        try simp only [oB15, Act.put, List.setIfInBounds_toArray, List.set_cons_zero, List.set_cons_succ]
        refine wpAnyH_take (i := 16) (oi := oB16) (v := undef) rfl (by kernel_rfl) (by kernel_rfl) (by kernel_rfl) (fun _ _ _ h => h) (Or.inr ⟨by rfl, rfl⟩) hHeld ?_
        try simp only [oB16, Act.put, List.setIfInBounds_toArray, List.set_cons_zero, List.set_cons_succ]
        refine wpAnyH_take (i := 17) (oi := oB17) (v := undef) rfl (by kernel_rfl) (by kernel_rfl) (by kernel_rfl) (fun _ _ _ h => h) (Or.inr ⟨by rfl, rfl⟩) hHeld ?_
        try simp only [oB17, Act.put, List.setIfInBounds_toArray, List.set_cons_zero, List.set_cons_succ]
        refine wpAnyH_take (i := 18) (oi := oB18) (v := undef) rfl (by kernel_rfl) (by kernel_rfl) (by kernel_rfl) (fun _ _ _ h => h) (Or.inr ⟨by rfl, rfl⟩) hHeld ?_
        try simp only [oB18, Act.put, List.setIfInBounds_toArray, List.set_cons_zero, List.set_cons_succ]
        refine wpAnyH_take (i := 19) (oi := oB19) (v := undef) rfl (by kernel_rfl) (by kernel_rfl) (by kernel_rfl) (fun _ _ _ h => h) (Or.inr ⟨by rfl, rfl⟩) hHeld ?_
        try simp only [oB19, Act.put, List.setIfInBounds_toArray, List.set_cons_zero, List.set_cons_succ]
        refine wpAnyH_take (i := 20) (oi := oB20) (v := undef) rfl (by kernel_rfl) (by kernel_rfl) (by kernel_rfl) (fun _ _ _ h => h) (Or.inr ⟨by rfl, rfl⟩) hHeld ?_
        try simp only [oB20, Act.put, List.setIfInBounds_toArray, List.set_cons_zero, List.set_cons_succ]
        refine wpAnyH_take (i := 21) (oi := oB21) (v := undef) rfl (by kernel_rfl) (by kernel_rfl) (by kernel_rfl) (fun _ _ _ h => h) (Or.inr ⟨by rfl, rfl⟩) hHeld ?_
        try simp only [oB21, Act.put, List.setIfInBounds_toArray, List.set_cons_zero, List.set_cons_succ]
        refine wpAnyH_take (i := 22) (oi := oB22) (v := undef) rfl (by kernel_rfl) (by kernel_rfl) (by kernel_rfl) (fun _ _ _ h => h) (Or.inr ⟨by rfl, rfl⟩) hHeld ?_
        try simp only [oB22, Act.put, List.setIfInBounds_toArray, List.set_cons_zero, List.set_cons_succ]
        refine wpAnyH_take (i := 23) (oi := oB23) (v := undef) rfl (by kernel_rfl) (by kernel_rfl) (by kernel_rfl) (fun _ _ _ h => h) (Or.inr ⟨by rfl, rfl⟩) hHeld ?_
        try simp only [oB23, Act.put, List.setIfInBounds_toArray, List.set_cons_zero, List.set_cons_succ]
        refine wpAnyH_take (i := 24) (oi := oB24) (v := undef) rfl (by kernel_rfl) (by kernel_rfl) (by kernel_rfl) (fun _ _ _ h => h) (Or.inr ⟨by rfl, rfl⟩) hHeld ?_
        try simp only [oB24, Act.put, List.setIfInBounds_toArray, List.set_cons_zero, List.set_cons_succ]
        refine wpAnyH_take (i := 25) (oi := oB25) (v := undef) rfl (by kernel_rfl) (by kernel_rfl) (by kernel_rfl) (fun _ _ _ h => h) (Or.inr ⟨by rfl, rfl⟩) hHeld ?_
        try simp only [oB25, Act.put, List.setIfInBounds_toArray, List.set_cons_zero, List.set_cons_succ]
        refine wpAnyH_take (i := 26) (oi := oB26) (v := undef) rfl (by kernel_rfl) (by kernel_rfl) (by kernel_rfl) (fun _ _ _ h => h) (Or.inr ⟨by rfl, rfl⟩) hHeld ?_
        try simp only [oB26, Act.put, List.setIfInBounds_toArray, List.set_cons_zero, List.set_cons_succ]
        refine wpAnyH_take (i := 27) (oi := oB27) (v := .bool true) rfl (by kernel_rfl) (by kernel_rfl) (by kernel_rfl) (fun _ _ _ h => h) (Or.inl ⟨by rfl, fun w hSw => ?_⟩) hHeld ?_
        · (try dsimp only at hSw)
          unfold oB27
          go_simp
        try simp only [oB27, Act.put, List.setIfInBounds_toArray, List.set_cons_zero, List.set_cons_succ]
        refine wpAnyH_done (by kernel_rfl) ?_ _
        go_wp2
        go_ret
        exact ⟨by rw [unhide F]; rfl, (unhide HW).b.drew⟩
      have NM := hide (fun u => by have := (unhide NM0) u; rw [qb] at this; exact this)
      by_cases k0 : 0 < k
      · by_cases qy : y < z
        · have GN := hide ((unhide NX) ((unhide DF).2 ⟨qb, fun _ => qy⟩))
          have p0 := (unhide RD) k0
          obtain ⟨p, hp⟩ : ∃ p, p = k - 1 := ⟨_, rfl⟩
          rw [← hp] at p0
          have a1 : IntKind.i64.wrap ((k : Int) - 1) = p := by simp [IntKind.wrap, go_sem]; omega
          have k1 : (k : Int) > 0 := by omega
          have pl : (p : Int) < x.ps.length := by omega
          have qn : ¬ y ≥ z := by omega
          have K6 := And.intro c1 (And.intro d0 p0)
          clear BAD NX DF RD NM0 OK hp qy
          go_wp2_with fail
          refine wp_region_held_drew (S := (fun w' => w'.cell? ⟨w.heap.size, 1, none⟩ = some (.slice (some ⟨g, 0, none⟩) x.ps.length x.c) ∧ w'.cell? ⟨g, k * 3, none⟩ = some (.int .i64 z) ∧ w'.cell? ⟨g, p * 3, none⟩ = some (.int .i64 y))) (by kernel_rfl) K6 (fun hHeld => ?_)
          refine wpAnyH_take (i := 0) (oi := oB0) (v := .pointer (some ⟨w.heap.size, 1, none⟩)) rfl (by kernel_rfl) (by kernel_rfl) (by kernel_rfl) (fun _ _ _ h => h) (Or.inl ⟨by rfl, fun w hSw => ?_⟩) hHeld ?_
          · (try dsimp only at hSw)
            unfold oB0
            go_simp
          try simp only [oB0, Act.put, List.setIfInBounds_toArray, List.set_cons_zero, List.set_cons_succ]
          refine wpAnyH_take (i := 1) (oi := oB1) (v := .slice (some ⟨g, 0, none⟩) x.ps.length x.c) rfl (by kernel_rfl) (by kernel_rfl) (by kernel_rfl) (fun _ _ _ h => h) (Or.inl ⟨by rfl, fun w hSw => ?_⟩) hHeld ?_
          · (try dsimp only at hSw)
            unfold oB1
            go_simp
          try simp only [oB1, Act.put, List.setIfInBounds_toArray, List.set_cons_zero, List.set_cons_succ]
          refine wpAnyH_take (i := 2) (oi := oB2) (v := .int .i64 k) rfl (by kernel_rfl) (by kernel_rfl) (by kernel_rfl) (fun _ _ _ h => h) (Or.inl ⟨by rfl, fun w hSw => ?_⟩) hHeld ?_
          · (try dsimp only at hSw)
            unfold oB2
            go_simp
          try simp only [oB2, Act.put, List.setIfInBounds_toArray, List.set_cons_zero, List.set_cons_succ]
          refine wpAnyH_take (i := 3) (oi := oB3) (v := .pointer (some ⟨g, k * 3, none⟩)) rfl (by kernel_rfl) (by kernel_rfl) (by kernel_rfl) (fun _ _ _ h => h) (Or.inl ⟨by rfl, fun w hSw => ?_⟩) hHeld ?_
          · (try dsimp only at hSw)
            unfold oB3
            go_simp
          try simp only [oB3, Act.put, List.setIfInBounds_toArray, List.set_cons_zero, List.set_cons_succ]
          refine wpAnyH_take (i := 4) (oi := oB4) (v := .pointer (some ⟨g, k * 3, none⟩)) rfl (by kernel_rfl) (by kernel_rfl) (by kernel_rfl) (fun _ _ _ h => h) (Or.inl ⟨by rfl, fun w hSw => ?_⟩) hHeld ?_
          · (try dsimp only at hSw)
            unfold oB4
            go_simp
          try simp only [oB4, Act.put, List.setIfInBounds_toArray, List.set_cons_zero, List.set_cons_succ]
          refine wpAnyH_take (i := 5) (oi := oB5) (v := .int .i64 z) rfl (by kernel_rfl) (by kernel_rfl) (by kernel_rfl) (fun _ _ _ h => h) (Or.inl ⟨by rfl, fun w hSw => ?_⟩) hHeld ?_
          · (try dsimp only at hSw)
            unfold oB5
            go_simp
          try simp only [oB5, Act.put, List.setIfInBounds_toArray, List.set_cons_zero, List.set_cons_succ]
          refine wpAnyH_ready (rs := [6]) (by kernel_rfl) (by simp) ?_
          refine AllReadyH.cons (o := oB6) rfl (fun K hK => ?_) AllReadyH.nil
          unfold oB6
          go_simp
          go_wp2_with fail
          refine (unhide NM _).mono ?_
          rintro e w5 ⟨rfl, rfl⟩
          go_wp2_with fail
          refine hK.out _ _ K6 (fun hHeld => ?_)
          clear hK K
          try simp only [oB6, Act.put, List.setIfInBounds_toArray, List.set_cons_zero, List.set_cons_succ]
          refine wpAnyH_take (i := 7) (oi := oB7) (v := .bool false) rfl (by kernel_rfl) (by kernel_rfl) (by kernel_rfl) (fun _ _ _ h => h) (Or.inl ⟨by rfl, fun w hSw => ?_⟩) hHeld ?_
          · (try dsimp only at hSw)
            unfold oB7
            go_simp
          try simp only [oB7, Act.put, List.setIfInBounds_toArray, List.set_cons_zero, List.set_cons_succ]
          refine wpAnyH_take (i := 8) (oi := oB8) (v := .bool false) rfl (by kernel_rfl) (by kernel_rfl) (by kernel_rfl) (fun _ _ _ h => h) (Or.inl ⟨by rfl, fun w hSw => ?_⟩) hHeld ?_
          · (try dsimp only at hSw)
            unfold oB8
            go_simp
          try simp only [oB8, Act.put, List.setIfInBounds_toArray, List.set_cons_zero, List.set_cons_succ]
          refine wpAnyH_take (i := 9) (oi := oB9) (v := .int .i64 k) rfl (by kernel_rfl) (by kernel_rfl) (by kernel_rfl) (fun _ _ _ h => h) (Or.inl ⟨by rfl, fun w hSw => ?_⟩) hHeld ?_
          · (try dsimp only at hSw)
            unfold oB9
            go_simp
          try simp only [oB9, Act.put, List.setIfInBounds_toArray, List.set_cons_zero, List.set_cons_succ]
          refine wpAnyH_take (i := 10) (oi := oB10) (v := .bool true) rfl (by kernel_rfl) (by kernel_rfl) (by kernel_rfl) (fun _ _ _ h => h) (Or.inl ⟨by rfl, fun w hSw => ?_⟩) hHeld ?_
          · (try dsimp only at hSw)
            unfold oB10
            go_simp
          try simp only [oB10, Act.put, List.setIfInBounds_toArray, List.set_cons_zero, List.set_cons_succ]
          refine wpAnyH_take (i := 11) (oi := oB11) (v := .bool true) rfl (by kernel_rfl) (by kernel_rfl) (by kernel_rfl) (fun _ _ _ h => h) (Or.inl ⟨by rfl, fun w hSw => ?_⟩) hHeld ?_
          · (try dsimp only at hSw)
            unfold oB11
            go_simp
          try simp only [oB11, Act.put, List.setIfInBounds_toArray, List.set_cons_zero, List.set_cons_succ]
          refine wpAnyH_take (i := 12) (oi := oB12) (v := .pointer (some ⟨w.heap.size, 1, none⟩)) rfl (by kernel_rfl) (by kernel_rfl) (by kernel_rfl) (fun _ _ _ h => h) (Or.inl ⟨by rfl, fun w hSw => ?_⟩) hHeld ?_
          · (try dsimp only at hSw)
            unfold oB12
            go_simp
          try simp only [oB12, Act.put, List.setIfInBounds_toArray, List.set_cons_zero, List.set_cons_succ]
          refine wpAnyH_take (i := 13) (oi := oB13) (v := .slice (some ⟨g, 0, none⟩) x.ps.length x.c) rfl (by kernel_rfl) (by kernel_rfl) (by kernel_rfl) (fun _ _ _ h => h) (Or.inl ⟨by rfl, fun w hSw => ?_⟩) hHeld ?_
          · (try dsimp only at hSw)
            unfold oB13
            go_simp
          try simp only [oB13, Act.put, List.setIfInBounds_toArray, List.set_cons_zero, List.set_cons_succ]
          refine wpAnyH_take (i := 14) (oi := oB14) (v := .int .i64 k) rfl (by kernel_rfl) (by kernel_rfl) (by kernel_rfl) (fun _ _ _ h => h) (Or.inl ⟨by rfl, fun w hSw => ?_⟩) hHeld ?_
          · (try dsimp only at hSw)
            unfold oB14
            go_simp
          try simp only [oB14, Act.put, List.setIfInBounds_toArray, List.set_cons_zero, List.set_cons_succ]
          refine wpAnyH_take (i := 15) (oi := oB15) (v := .int .i64 p) rfl (by kernel_rfl) (by kernel_rfl) (by kernel_rfl) (fun _ _ _ h => h) (Or.inl ⟨by rfl, fun w hSw => ?_⟩) hHeld ?_
          · (try dsimp only at hSw)
            unfold oB15
            go_simp
          try simp only [oB15, Act.put, List.setIfInBounds_toArray, List.set_cons_zero, List.set_cons_succ]
          refine wpAnyH_take (i := 16) (oi := oB16) (v := .pointer (some ⟨g, p * 3, none⟩)) rfl (by kernel_rfl) (by kernel_rfl) (by kernel_rfl) (fun _ _ _ h => h) (Or.inl ⟨by rfl, fun w hSw => ?_⟩) hHeld ?_
          · (try dsimp only at hSw)
            unfold oB16
            go_simp
          try simp only [oB16, Act.put, List.setIfInBounds_toArray, List.set_cons_zero, List.set_cons_succ]
          refine wpAnyH_take (i := 17) (oi := oB17) (v := .pointer (some ⟨g, p * 3, none⟩)) rfl (by kernel_rfl) (by kernel_rfl) (by kernel_rfl) (fun _ _ _ h => h) (Or.inl ⟨by rfl, fun w hSw => ?_⟩) hHeld ?_
          · (try dsimp only at hSw)
            unfold oB17
            go_simp
          try simp only [oB17, Act.put, List.setIfInBounds_toArray, List.set_cons_zero, List.set_cons_succ]
          refine wpAnyH_take (i := 18) (oi := oB18) (v := .int .i64 y) rfl (by kernel_rfl) (by kernel_rfl) (by kernel_rfl) (fun _ _ _ h => h) (Or.inl ⟨by rfl, fun w hSw => ?_⟩) hHeld ?_
          · (try dsimp only at hSw)
            unfold oB18
            go_simp
          try simp only [oB18, Act.put, List.setIfInBounds_toArray, List.set_cons_zero, List.set_cons_succ]
          refine wpAnyH_take (i := 19) (oi := oB19) (v := .pointer (some ⟨w.heap.size, 1, none⟩)) rfl (by kernel_rfl) (by kernel_rfl) (by kernel_rfl) (fun _ _ _ h => h) (Or.inl ⟨by rfl, fun w hSw => ?_⟩) hHeld ?_
          · (try dsimp only at hSw)
            unfold oB19
            go_simp
          try simp only [oB19, Act.put, List.setIfInBounds_toArray, List.set_cons_zero, List.set_cons_succ]
          refine wpAnyH_take (i := 20) (oi := oB20) (v := .slice (some ⟨g, 0, none⟩) x.ps.length x.c) rfl (by kernel_rfl) (by kernel_rfl) (by kernel_rfl) (fun _ _ _ h => h) (Or.inl ⟨by rfl, fun w hSw => ?_⟩) hHeld ?_
          · (try dsimp only at hSw)
            unfold oB20
            go_simp
          try simp only [oB20, Act.put, List.setIfInBounds_toArray, List.set_cons_zero, List.set_cons_succ]
          refine wpAnyH_take (i := 21) (oi := oB21) (v := .int .i64 k) rfl (by kernel_rfl) (by kernel_rfl) (by kernel_rfl) (fun _ _ _ h => h) (Or.inl ⟨by rfl, fun w hSw => ?_⟩) hHeld ?_
          · (try dsimp only at hSw)
            unfold oB21
            go_simp
          try simp only [oB21, Act.put, List.setIfInBounds_toArray, List.set_cons_zero, List.set_cons_succ]
          refine wpAnyH_take (i := 22) (oi := oB22) (v := .pointer (some ⟨g, k * 3, none⟩)) rfl (by kernel_rfl) (by kernel_rfl) (by kernel_rfl) (fun _ _ _ h => h) (Or.inl ⟨by rfl, fun w hSw => ?_⟩) hHeld ?_
          · (try dsimp only at hSw)
            unfold oB22
            go_simp
          try simp only [oB22, Act.put, List.setIfInBounds_toArray, List.set_cons_zero, List.set_cons_succ]
          refine wpAnyH_take (i := 23) (oi := oB23) (v := .pointer (some ⟨g, k * 3, none⟩)) rfl (by kernel_rfl) (by kernel_rfl) (by kernel_rfl) (fun _ _ _ h => h) (Or.inl ⟨by rfl, fun w hSw => ?_⟩) hHeld ?_
          · (try dsimp only at hSw)
            unfold oB23
            go_simp
          try simp only [oB23, Act.put, List.setIfInBounds_toArray, List.set_cons_zero, List.set_cons_succ]
          refine wpAnyH_take (i := 24) (oi := oB24) (v := .int .i64 z) rfl (by kernel_rfl) (by kernel_rfl) (by kernel_rfl) (fun _ _ _ h => h) (Or.inl ⟨by rfl, fun w hSw => ?_⟩) hHeld ?_
          · (try dsimp only at hSw)
            unfold oB24
            go_simp
          try simp only [oB24, Act.put, List.setIfInBounds_toArray, List.set_cons_zero, List.set_cons_succ]
          refine wpAnyH_take (i := 25) (oi := oB25) (v := .bool false) rfl (by kernel_rfl) (by kernel_rfl) (by kernel_rfl) (fun _ _ _ h => h) (Or.inl ⟨by rfl, fun w hSw => ?_⟩) hHeld ?_
          · (try dsimp only at hSw)
            unfold oB25
            go_simp
          try simp only [oB25, Act.put, List.setIfInBounds_toArray, List.set_cons_zero, List.set_cons_succ]
          refine wpAnyH_take (i := 26) (oi := oB26) (v := .bool false) rfl (by kernel_rfl) (by kernel_rfl) (by kernel_rfl) (fun _ _ _ h => h) (Or.inl ⟨by rfl, fun w hSw => ?_⟩) hHeld ?_
          · (try dsimp only at hSw)
            unfold oB26
            go_simp
          try simp only [oB26, Act.put, List.setIfInBounds_toArray, List.set_cons_zero, List.set_cons_succ]
          refine wpAnyH_take (i := 27) (oi := oB27) (v := .bool false) rfl (by kernel_rfl) (by kernel_rfl) (by kernel_rfl) (fun _ _ _ h => h) (Or.inl ⟨by rfl, fun w hSw => ?_⟩) hHeld ?_
          · (try dsimp only at hSw)
            unfold oB27
            go_simp
          try simp only [oB27, Act.put, List.setIfInBounds_toArray, List.set_cons_zero, List.set_cons_succ]
          refine wpAnyH_done (by kernel_rfl) ?_ _
          go_wp2
          go_roundw
          case rel => exact ⟨k + 1, by omega, by go_num, GN, (unhide HW).drew⟩
          case measure => simp [intOf]; omega
        · have F := hide ((unhide BAD) (fun h => qy (((unhide DF).1 h).2 k0)))
          have p0 := (unhide RD) k0
          obtain ⟨p, hp⟩ : ∃ p, p = k - 1 := ⟨_, rfl⟩
          rw [← hp] at p0
          have a1 : IntKind.i64.wrap ((k : Int) - 1) = p := by simp [IntKind.wrap, go_sem]; omega
          have k1 : (k : Int) > 0 := by omega
          have pl : (p : Int) < x.ps.length := by omega
          have qn : y ≥ z := by omega
          have K6 := And.intro c1 (And.intro d0 p0)
          clear BAD NX DF RD NM0 OK hp qy
          go_wp2_with fail
          refine wp_region_held_drew (S := (fun w' => w'.cell? ⟨w.heap.size, 1, none⟩ = some (.slice (some ⟨g, 0, none⟩) x.ps.length x.c) ∧ w'.cell? ⟨g, k * 3, none⟩ = some (.int .i64 z) ∧ w'.cell? ⟨g, p * 3, none⟩ = some (.int .i64 y))) (by kernel_rfl) K6 (fun hHeld => ?_)
          refine wpAnyH_take (i := 0) (oi := oB0) (v := .pointer (some ⟨w.heap.size, 1, none⟩)) rfl (by kernel_rfl) (by kernel_rfl) (by kernel_rfl) (fun _ _ _ h => h) (Or.inl ⟨by rfl, fun w hSw => ?_⟩) hHeld ?_
          · (try dsimp only at hSw)
            unfold oB0
            go_simp
          try simp only [oB0, Act.put, List.setIfInBounds_toArray, List.set_cons_zero, List.set_cons_succ]
          refine wpAnyH_take (i := 1) (oi := oB1) (v := .slice (some ⟨g, 0, none⟩) x.ps.length x.c) rfl (by kernel_rfl) (by kernel_rfl) (by kernel_rfl) (fun _ _ _ h => h) (Or.inl ⟨by rfl, fun w hSw => ?_⟩) hHeld ?_
          · (try dsimp only at hSw)
            unfold oB1
            go_simp
          try simp only [oB1, Act.put, List.setIfInBounds_toArray, List.set_cons_zero, List.set_cons_succ]
          refine wpAnyH_take (i := 2) (oi := oB2) (v := .int .i64 k) rfl (by kernel_rfl) (by kernel_rfl) (by kernel_rfl) (fun _ _ _ h => h) (Or.inl ⟨by rfl, fun w hSw => ?_⟩) hHeld ?_
          · (try dsimp only at hSw)
            unfold oB2
            go_simp
          try simp only [oB2, Act.put, List.setIfInBounds_toArray, List.set_cons_zero, List.set_cons_succ]
          refine wpAnyH_take (i := 3) (oi := oB3) (v := .pointer (some ⟨g, k * 3, none⟩)) rfl (by kernel_rfl) (by kernel_rfl) (by kernel_rfl) (fun _ _ _ h => h) (Or.inl ⟨by rfl, fun w hSw => ?_⟩) hHeld ?_
          · (try dsimp only at hSw)
            unfold oB3
            go_simp
          try simp only [oB3, Act.put, List.setIfInBounds_toArray, List.set_cons_zero, List.set_cons_succ]
          refine wpAnyH_take (i := 4) (oi := oB4) (v := .pointer (some ⟨g, k * 3, none⟩)) rfl (by kernel_rfl) (by kernel_rfl) (by kernel_rfl) (fun _ _ _ h => h) (Or.inl ⟨by rfl, fun w hSw => ?_⟩) hHeld ?_
          · (try dsimp only at hSw)
            unfold oB4
            go_simp
          try simp only [oB4, Act.put, List.setIfInBounds_toArray, List.set_cons_zero, List.set_cons_succ]
          refine wpAnyH_take (i := 5) (oi := oB5) (v := .int .i64 z) rfl (by kernel_rfl) (by kernel_rfl) (by kernel_rfl) (fun _ _ _ h => h) (Or.inl ⟨by rfl, fun w hSw => ?_⟩) hHeld ?_
          · (try dsimp only at hSw)
            unfold oB5
            go_simp
          try simp only [oB5, Act.put, List.setIfInBounds_toArray, List.set_cons_zero, List.set_cons_succ]
          refine wpAnyH_ready (rs := [6]) (by kernel_rfl) (by simp) ?_
          refine AllReadyH.cons (o := oB6) rfl (fun K hK => ?_) AllReadyH.nil
          unfold oB6
          go_simp
          go_wp2_with fail
          refine (unhide NM _).mono ?_
          rintro e w5 ⟨rfl, rfl⟩
          go_wp2_with fail
          refine hK.out _ _ K6 (fun hHeld => ?_)
          clear hK K
          try simp only [oB6, Act.put, List.setIfInBounds_toArray, List.set_cons_zero, List.set_cons_succ]
          refine wpAnyH_take (i := 7) (oi := oB7) (v := .bool false) rfl (by kernel_rfl) (by kernel_rfl) (by kernel_rfl) (fun _ _ _ h => h) (Or.inl ⟨by rfl, fun w hSw => ?_⟩) hHeld ?_
          · (try dsimp only at hSw)
            unfold oB7
            go_simp
          try simp only [oB7, Act.put, List.setIfInBounds_toArray, List.set_cons_zero, List.set_cons_succ]
          refine wpAnyH_take (i := 8) (oi := oB8) (v := .bool false) rfl (by kernel_rfl) (by kernel_rfl) (by kernel_rfl) (fun _ _ _ h => h) (Or.inl ⟨by rfl, fun w hSw => ?_⟩) hHeld ?_
          · (try dsimp only at hSw)
            unfold oB8
            go_simp
          try simp only [oB8, Act.put, List.setIfInBounds_toArray, List.set_cons_zero, List.set_cons_succ]
          refine wpAnyH_take (i := 9) (oi := oB9) (v := .int .i64 k) rfl (by kernel_rfl) (by kernel_rfl) (by kernel_rfl) (fun _ _ _ h => h) (Or.inl ⟨by rfl, fun w hSw => ?_⟩) hHeld ?_
          · (try dsimp only at hSw)
            unfold oB9
            go_simp
          try simp only [oB9, Act.put, List.setIfInBounds_toArray, List.set_cons_zero, List.set_cons_succ]
          refine wpAnyH_take (i := 10) (oi := oB10) (v := .bool true) rfl (by kernel_rfl) (by kernel_rfl) (by kernel_rfl) (fun _ _ _ h => h) (Or.inl ⟨by rfl, fun w hSw => ?_⟩) hHeld ?_
          · (try dsimp only at hSw)
            unfold oB10
            go_simp
          try simp only [oB10, Act.put, List.setIfInBounds_toArray, List.set_cons_zero, List.set_cons_succ]
          refine wpAnyH_take (i := 11) (oi := oB11) (v := .bool true) rfl (by kernel_rfl) (by kernel_rfl) (by kernel_rfl) (fun _ _ _ h => h) (Or.inl ⟨by rfl, fun w hSw => ?_⟩) hHeld ?_
          · (try dsimp only at hSw)
            unfold oB11
            go_simp
          try simp only [oB11, Act.put, List.setIfInBounds_toArray, List.set_cons_zero, List.set_cons_succ]
          refine wpAnyH_take (i := 12) (oi := oB12) (v := .pointer (some ⟨w.heap.size, 1, none⟩)) rfl (by kernel_rfl) (by kernel_rfl) (by kernel_rfl) (fun _ _ _ h => h) (Or.inl ⟨by rfl, fun w hSw => ?_⟩) hHeld ?_
          · (try dsimp only at hSw)
            unfold oB12
            go_simp
          try simp only [oB12, Act.put, List.setIfInBounds_toArray, List.set_cons_zero, List.set_cons_succ]
          refine wpAnyH_take (i := 13) (oi := oB13) (v := .slice (some ⟨g, 0, none⟩) x.ps.length x.c) rfl (by kernel_rfl) (by kernel_rfl) (by kernel_rfl) (fun _ _ _ h => h) (Or.inl ⟨by rfl, fun w hSw => ?_⟩) hHeld ?_
          · (try dsimp only at hSw)
            unfold oB13
            go_simp
          try simp only [oB13, Act.put, List.setIfInBounds_toArray, List.set_cons_zero, List.set_cons_succ]
          refine wpAnyH_take (i := 14) (oi := oB14) (v := .int .i64 k) rfl (by kernel_rfl) (by kernel_rfl) (by kernel_rfl) (fun _ _ _ h => h) (Or.inl ⟨by rfl, fun w hSw => ?_⟩) hHeld ?_
          · (try dsimp only at hSw)
            unfold oB14
            go_simp
          try simp only [oB14, Act.put, List.setIfInBounds_toArray, List.set_cons_zero, List.set_cons_succ]
          refine wpAnyH_take (i := 15) (oi := oB15) (v := .int .i64 p) rfl (by kernel_rfl) (by kernel_rfl) (by kernel_rfl) (fun _ _ _ h => h) (Or.inl ⟨by rfl, fun w hSw => ?_⟩) hHeld ?_
          · (try dsimp only at hSw)
            unfold oB15
            go_simp
          try simp only [oB15, Act.put, List.setIfInBounds_toArray, List.set_cons_zero, List.set_cons_succ]
          refine wpAnyH_take (i := 16) (oi := oB16) (v := .pointer (some ⟨g, p * 3, none⟩)) rfl (by kernel_rfl) (by kernel_rfl) (by kernel_rfl) (fun _ _ _ h => h) (Or.inl ⟨by rfl, fun w hSw => ?_⟩) hHeld ?_
          · (try dsimp only at hSw)
            unfold oB16
            go_simp
          try simp only [oB16, Act.put, List.setIfInBounds_toArray, List.set_cons_zero, List.set_cons_succ]
          refine wpAnyH_take (i := 17) (oi := oB17) (v := .pointer (some ⟨g, p * 3, none⟩)) rfl (by kernel_rfl) (by kernel_rfl) (by kernel_rfl) (fun _ _ _ h => h) (Or.inl ⟨by rfl, fun w hSw => ?_⟩) hHeld ?_
          · (try dsimp only at hSw)
            unfold oB17
            go_simp
          try simp only [oB17, Act.put, List.setIfInBounds_toArray, List.set_cons_zero, List.set_cons_succ]
          refine wpAnyH_take (i := 18) (oi := oB18) (v := .int .i64 y) rfl (by kernel_rfl) (by kernel_rfl) (by kernel_rfl) (fun _ _ _ h => h) (Or.inl ⟨by rfl, fun w hSw => ?_⟩) hHeld ?_
          · (try dsimp only at hSw)
            unfold oB18
            go_simp
          try simp only [oB18, Act.put, List.setIfInBounds_toArray, List.set_cons_zero, List.set_cons_succ]
          refine wpAnyH_take (i := 19) (oi := oB19) (v := .pointer (some ⟨w.heap.size, 1, none⟩)) rfl (by kernel_rfl) (by kernel_rfl) (by kernel_rfl) (fun _ _ _ h => h) (Or.inl ⟨by rfl, fun w hSw => ?_⟩) hHeld ?_
          · (try dsimp only at hSw)
            unfold oB19
            go_simp
          try simp only [oB19, Act.put, List.setIfInBounds_toArray, List.set_cons_zero, List.set_cons_succ]
          refine wpAnyH_take (i := 20) (oi := oB20) (v := .slice (some ⟨g, 0, none⟩) x.ps.length x.c) rfl (by kernel_rfl) (by kernel_rfl) (by kernel_rfl) (fun _ _ _ h => h) (Or.inl ⟨by rfl, fun w hSw => ?_⟩) hHeld ?_
          · (try dsimp only at hSw)
            unfold oB20
            go_simp
          try simp only [oB20, Act.put, List.setIfInBounds_toArray, List.set_cons_zero, List.set_cons_succ]
          refine wpAnyH_take (i := 21) (oi := oB21) (v := .int .i64 k) rfl (by kernel_rfl) (by kernel_rfl) (by kernel_rfl) (fun _ _ _ h => h) (Or.inl ⟨by rfl, fun w hSw => ?_⟩) hHeld ?_
          · (try dsimp only at hSw)
            unfold oB21
            go_simp
          try simp only [oB21, Act.put, List.setIfInBounds_toArray, List.set_cons_zero, List.set_cons_succ]
          refine wpAnyH_take (i := 22) (oi := oB22) (v := .pointer (some ⟨g, k * 3, none⟩)) rfl (by kernel_rfl) (by kernel_rfl) (by kernel_rfl) (fun _ _ _ h => h) (Or.inl ⟨by rfl, fun w hSw => ?_⟩) hHeld ?_
          · (try dsimp only at hSw)
            unfold oB22
            go_simp
          try simp only [oB22, Act.put, List.setIfInBounds_toArray, List.set_cons_zero, List.set_cons_succ]
          refine wpAnyH_take (i := 23) (oi := oB23) (v := .pointer (some ⟨g, k * 3, none⟩)) rfl (by kernel_rfl) (by kernel_rfl) (by kernel_rfl) (fun _ _ _ h => h) (Or.inl ⟨by rfl, fun w hSw => ?_⟩) hHeld ?_
          · (try dsimp only at hSw)
            unfold oB23
            go_simp
          try simp only [oB23, Act.put, List.setIfInBounds_toArray, List.set_cons_zero, List.set_cons_succ]
          refine wpAnyH_take (i := 24) (oi := oB24) (v := .int .i64 z) rfl (by kernel_rfl) (by kernel_rfl) (by kernel_rfl) (fun _ _ _ h => h) (Or.inl ⟨by rfl, fun w hSw => ?_⟩) hHeld ?_
          · (try dsimp only at hSw)
            unfold oB24
            go_simp
          try simp only [oB24, Act.put, List.setIfInBounds_toArray, List.set_cons_zero, List.set_cons_succ]
          refine wpAnyH_take (i := 25) (oi := oB25) (v := .bool true) rfl (by kernel_rfl) (by kernel_rfl) (by kernel_rfl) (fun _ _ _ h => h) (Or.inl ⟨by rfl, fun w hSw => ?_⟩) hHeld ?_
          · (try dsimp only at hSw)
            unfold oB25
            go_simp
          try simp only [oB25, Act.put, List.setIfInBounds_toArray, List.set_cons_zero, List.set_cons_succ]
          refine wpAnyH_take (i := 26) (oi := oB26) (v := .bool true) rfl (by kernel_rfl) (by kernel_rfl) (by kernel_rfl) (fun _ _ _ h => h) (Or.inl ⟨by rfl, fun w hSw => ?_⟩) hHeld ?_
          · (try dsimp only at hSw)
            unfold oB26
            go_simp
          try simp only [oB26, Act.put, List.setIfInBounds_toArray, List.set_cons_zero, List.set_cons_succ]
          refine wpAnyH_take (i := 27) (oi := oB27) (v := .bool true) rfl (by kernel_rfl) (by kernel_rfl) (by kernel_rfl) (fun _ _ _ h => h) (Or.inl ⟨by rfl, fun w hSw => ?_⟩) hHeld ?_
          · (try dsimp only at hSw)
            unfold oB27
            go_simp
          try simp only [oB27, Act.put, List.setIfInBounds_toArray, List.set_cons_zero, List.set_cons_succ]
          refine wpAnyH_done (by kernel_rfl) ?_ _
          go_wp2
          go_ret
          exact ⟨by rw [unhide F]; rfl, (unhide HW).b.drew⟩
      · have GN := hide ((unhide NX) ((unhide DF).2 ⟨qb, fun h => absurd h k0⟩))
        have kn : ¬ (k : Int) > 0 := by omega
        have K6 := And.intro c1 d0
        clear BAD NX DF RD NM0 OK
        go_wp2_with fail
        refine wp_region_held_drew (S := (fun w' => w'.cell? ⟨w.heap.size, 1, none⟩ = some (.slice (some ⟨g, 0, none⟩) x.ps.length x.c) ∧ w'.cell? ⟨g, k * 3, none⟩ = some (.int .i64 z))) (by kernel_rfl) K6 (fun hHeld => ?_)
        refine wpAnyH_take (i := 0) (oi := oB0) (v := .pointer (some ⟨w.heap.size, 1, none⟩)) rfl (by kernel_rfl) (by kernel_rfl) (by kernel_rfl) (fun _ _ _ h => h) (Or.inl ⟨by rfl, fun w hSw => ?_⟩) hHeld ?_
        · (try dsimp only at hSw)
          unfold oB0
          go_simp
        try simp only [oB0, Act.put, List.setIfInBounds_toArray, List.set_cons_zero, List.set_cons_succ]
        refine wpAnyH_take (i := 1) (oi := oB1) (v := .slice (some ⟨g, 0, none⟩) x.ps.length x.c) rfl (by kernel_rfl) (by kernel_rfl) (by kernel_rfl) (fun _ _ _ h => h) (Or.inl ⟨by rfl, fun w hSw => ?_⟩) hHeld ?_
        · (try dsimp only at hSw)
          unfold oB1
          go_simp
        try simp only [oB1, Act.put, List.setIfInBounds_toArray, List.set_cons_zero, List.set_cons_succ]
        refine wpAnyH_take (i := 2) (oi := oB2) (v := .int .i64 k) rfl (by kernel_rfl) (by kernel_rfl) (by kernel_rfl) (fun _ _ _ h => h) (Or.inl ⟨by rfl, fun w hSw => ?_⟩) hHeld ?_
        · (try dsimp only at hSw)
          unfold oB2
          go_simp
        try simp only [oB2, Act.put, List.setIfInBounds_toArray, List.set_cons_zero, List.set_cons_succ]
        refine wpAnyH_take (i := 3) (oi := oB3) (v := .pointer (some ⟨g, k * 3, none⟩)) rfl (by kernel_rfl) (by kernel_rfl) (by kernel_rfl) (fun _ _ _ h => h) (Or.inl ⟨by rfl, fun w hSw => ?_⟩) hHeld ?_
        · (try dsimp only at hSw)
          unfold oB3
          go_simp
        try simp only [oB3, Act.put, List.setIfInBounds_toArray, List.set_cons_zero, List.set_cons_succ]
        refine wpAnyH_take (i := 4) (oi := oB4) (v := .pointer (some ⟨g, k * 3, none⟩)) rfl (by kernel_rfl) (by kernel_rfl) (by kernel_rfl) (fun _ _ _ h => h) (Or.inl ⟨by rfl, fun w hSw => ?_⟩) hHeld ?_
        · (try dsimp only at hSw)
          unfold oB4
          go_simp
        try simp only [oB4, Act.put, List.setIfInBounds_toArray, List.set_cons_zero, List.set_cons_succ]
        refine wpAnyH_take (i := 5) (oi := oB5) (v := .int .i64 z) rfl (by kernel_rfl) (by kernel_rfl) (by kernel_rfl) (fun _ _ _ h => h) (Or.inl ⟨by rfl, fun w hSw => ?_⟩) hHeld ?_
        · (try dsimp only at hSw)
          unfold oB5
          go_simp
        try simp only [oB5, Act.put, List.setIfInBounds_toArray, List.set_cons_zero, List.set_cons_succ]
        refine wpAnyH_ready (rs := [6]) (by kernel_rfl) (by simp) ?_
        refine AllReadyH.cons (o := oB6) rfl (fun K hK => ?_) AllReadyH.nil
        unfold oB6
        go_simp
        go_wp2_with fail
        refine (unhide NM _).mono ?_
        rintro e w5 ⟨rfl, rfl⟩
        go_wp2_with fail
        refine hK.out _ _ K6 (fun hHeld => ?_)
        clear hK K
        try simp only [oB6, Act.put, List.setIfInBounds_toArray, List.set_cons_zero, List.set_cons_succ]
        refine wpAnyH_take (i := 7) (oi := oB7) (v := .bool false) rfl (by kernel_rfl) (by kernel_rfl) (by kernel_rfl) (fun _ _ _ h => h) (Or.inl ⟨by rfl, fun w hSw => ?_⟩) hHeld ?_
        · (try dsimp only at hSw)
          unfold oB7
          go_simp
        try simp only [oB7, Act.put, List.setIfInBounds_toArray, List.set_cons_zero, List.set_cons_succ]
        refine wpAnyH_take (i := 8) (oi := oB8) (v := .bool false) rfl (by kernel_rfl) (by kernel_rfl) (by kernel_rfl) (fun _ _ _ h => h) (Or.inl ⟨by rfl, fun w hSw => ?_⟩) hHeld ?_
        · (try dsimp only at hSw)
          unfold oB8
          go_simp
        try simp only [oB8, Act.put, List.setIfInBounds_toArray, List.set_cons_zero, List.set_cons_succ]
        refine wpAnyH_take (i := 9) (oi := oB9) (v := .int .i64 k) rfl (by kernel_rfl) (by kernel_rfl) (by kernel_rfl) (fun _ _ _ h => h) (Or.inl ⟨by rfl, fun w hSw => ?_⟩) hHeld ?_
        · (try dsimp only at hSw)
          unfold oB9
          go_simp
        try simp only [oB9, Act.put, List.setIfInBounds_toArray, List.set_cons_zero, List.set_cons_succ]
        refine wpAnyH_take (i := 10) (oi := oB10) (v := .bool false) rfl (by kernel_rfl) (by kernel_rfl) (by kernel_rfl) (fun _ _ _ h => h) (Or.inl ⟨by rfl, fun w hSw => ?_⟩) hHeld ?_
        · (try dsimp only at hSw)
          unfold oB10
          go_simp
        try simp only [oB10, Act.put, List.setIfInBounds_toArray, List.set_cons_zero, List.set_cons_succ]
        refine wpAnyH_take (i := 11) (oi := oB11) (v := .bool false) rfl (by kernel_rfl) (by kernel_rfl) (by kernel_rfl) (fun _ _ _ h => h) (Or.inl ⟨by rfl, fun w hSw => ?_⟩) hHeld ?_
        · (try dsimp only at hSw)
          unfold oB11
          go_simp
        try simp only [oB11, Act.put, List.setIfInBounds_toArray, List.set_cons_zero, List.set_cons_succ]
        refine wpAnyH_take (i := 12) (oi := oB12) (v := undef) rfl (by kernel_rfl) (by kernel_rfl) (by kernel_rfl) (fun _ _ _ h => h) (Or.inr ⟨by rfl, rfl⟩) hHeld ?_
        try simp only [oB12, Act.put, List.setIfInBounds_toArray, List.set_cons_zero, List.set_cons_succ]
        refine wpAnyH_take (i := 13) (oi := oB13) (v := undef) rfl (by kernel_rfl) (by kernel_rfl) (by kernel_rfl) (fun _ _ _ h => h) (Or.inr ⟨by rfl, rfl⟩) hHeld ?_
        try simp only [oB13, Act.put, List.setIfInBounds_toArray, List.set_cons_zero, List.set_cons_succ]
        refine wpAnyH_take (i := 14) (oi := oB14) (v := undef) rfl (by kernel_rfl) (by kernel_rfl) (by kernel_rfl) (fun _ _ _ h => h) (Or.inr ⟨by rfl, rfl⟩) hHeld ?_
        try simp only [oB14, Act.put, List.setIfInBounds_toArray, List.set_cons_zero, List.set_cons_succ]
        refine wpAnyH_take (i := 15) (oi := oB15) (v := undef) rfl (by kernel_rfl) (by kernel_rfl) (by kernel_rfl) (fun _ _ _ h => h) (Or.inr ⟨by rfl, rfl⟩) hHeld ?_
        try simp only [oB15, Act.put, List.setIfInBounds_toArray, List.set_cons_zero, List.set_cons_succ]
        refine wpAnyH_take (i := 16) (oi := oB16) (v := undef) rfl (by kernel_rfl) (by kernel_rfl) (by kernel_rfl) (fun _ _ _ h => h) (Or.inr ⟨by rfl, rfl⟩) hHeld ?_
        try simp only [oB16, Act.put, List.setIfInBounds_toArray, List.set_cons_zero, List.set_cons_succ]
        refine wpAnyH_take (i := 17) (oi := oB17) (v := undef) rfl (by kernel_rfl) (by kernel_rfl) (by kernel_rfl) (fun _ _ _ h => h) (Or.inr ⟨by rfl, rfl⟩) hHeld ?_
        try simp only [oB17, Act.put, List.setIfInBounds_toArray, List.set_cons_zero, List.set_cons_succ]
        refine wpAnyH_take (i := 18) (oi := oB18) (v := undef) rfl (by kernel_rfl) (by kernel_rfl) (by kernel_rfl) (fun _ _ _ h => h) (Or.inr ⟨by rfl, rfl⟩) hHeld ?_
        try simp only [oB18, Act.put, List.setIfInBounds_toArray, List.set_cons_zero, List.set_cons_succ]
        refine wpAnyH_take (i := 19) (oi := oB19) (v := undef) rfl (by kernel_rfl) (by kernel_rfl) (by kernel_rfl) (fun _ _ _ h => h) (Or.inr ⟨by rfl, rfl⟩) hHeld ?_
        try simp only [oB19, Act.put, List.setIfInBounds_toArray, List.set_cons_zero, List.set_cons_succ]
        refine wpAnyH_take (i := 20) (oi := oB20) (v := undef) rfl (by kernel_rfl) (by kernel_rfl) (by kernel_rfl) (fun _ _ _ h => h) (Or.inr ⟨by rfl, rfl⟩) hHeld ?_
        try simp only [oB20, Act.put, List.setIfInBounds_toArray, List.set_cons_zero, List.set_cons_succ]
        refine wpAnyH_take (i := 21) (oi := oB21) (v := undef) rfl (by kernel_rfl) (by kernel_rfl) (by kernel_rfl) (fun _ _ _ h => h) (Or.inr ⟨by rfl, rfl⟩) hHeld ?_
        try simp only [oB21, Act.put, List.setIfInBounds_toArray, List.set_cons_zero, List.set_cons_succ]
        refine wpAnyH_take (i := 22) (oi := oB22) (v := undef) rfl (by kernel_rfl) (by kernel_rfl) (by kernel_rfl) (fun _ _ _ h => h) (Or.inr ⟨by rfl, rfl⟩) hHeld ?_
        try simp only [oB22, Act.put, List.setIfInBounds_toArray, List.set_cons_zero, List.set_cons_succ]
        refine wpAnyH_take (i := 23) (oi := oB23) (v := undef) rfl (by kernel_rfl) (by kernel_rfl) (by kernel_rfl) (fun _ _ _ h => h) (Or.inr ⟨by rfl, rfl⟩) hHeld ?_
        try simp only [oB23, Act.put, List.setIfInBounds_toArray, List.set_cons_zero, List.set_cons_succ]
        refine wpAnyH_take (i := 24) (oi := oB24) (v := undef) rfl (by kernel_rfl) (by kernel_rfl) (by kernel_rfl) (fun _ _ _ h => h) (Or.inr ⟨by rfl, rfl⟩) hHeld ?_
        try simp only [oB24, Act.put, List.setIfInBounds_toArray, List.set_cons_zero, List.set_cons_succ]
        refine wpAnyH_take (i := 25) (oi := oB25) (v := undef) rfl (by kernel_rfl) (by kernel_rfl) (by kernel_rfl) (fun _ _ _ h => h) (Or.inr ⟨by rfl, rfl⟩) hHeld ?_
        try simp only [oB25, Act.put, List.setIfInBounds_toArray, List.set_cons_zero, List.set_cons_succ]
        refine wpAnyH_take (i := 26) (oi := oB26) (v := .bool false) rfl (by kernel_rfl) (by kernel_rfl) (by kernel_rfl) (fun _ _ _ h => h) (Or.inl ⟨by rfl, fun w hSw => ?_⟩) hHeld ?_
        · (try dsimp only at hSw)
          unfold oB26
          go_simp
        try simp only [oB26, Act.put, List.setIfInBounds_toArray, List.set_cons_zero, List.set_cons_succ]
        refine wpAnyH_take (i := 27) (oi := oB27) (v := .bool false) rfl (by kernel_rfl) (by kernel_rfl) (by kernel_rfl) (fun _ _ _ h => h) (Or.inl ⟨by rfl, fun w hSw => ?_⟩) hHeld ?_
        · (try dsimp only at hSw)
          unfold oB27
          go_simp
        try simp only [oB27, Act.put, List.setIfInBounds_toArray, List.set_cons_zero, List.set_cons_succ]
        refine wpAnyH_done (by kernel_rfl) ?_ _
        go_wp2
        go_roundw
        case rel => exact ⟨k + 1, by omega, by go_num, GN, (unhide HW).drew⟩
        case measure => simp [intOf]; omega
    · have e : k = x.ps.length := by omega
      have E := hide ((unhide OK) (by rw [← e]; exact unhide HY))
      clear HY OK
      subst e
      go_wp2
      go_ret
      exact ⟨by rw [unhide E]; rfl, (unhide HW).b⟩
end Go.Proofs.Ytcajdiopgaoicaa.SOk14
namespace Go.Proofs.Ytcajdiopgaoicaa.SRd14
open Go.ChangeShapes Go.WideShapes Go.ChangeAt Go.RowKit Fil14 DiskH14 DkH14 SDk14 SOk14
/-- All bytes of the file at a place. -/
def bytesAt (ps : List TF) (k : Nat) : ByteArray := (elF ps k).2.1 ++ (elF ps k).2.2
/-- What is read of a disk. -/
def readD (room : Int) (ps : List TF) (nm : Int) : ByteArray × Bool := if OkD room ps ∧ 0 ≤ findF ps nm then (bytesAt ps (findF ps nm).toNat, true) else (ByteArray.empty, false)
set_option maxRecDepth 100000 in
set_option maxHeartbeats 4000000 in
theorem sDiskRead (w : World) (x : Dx) (nm : Int) (hr : RdD w x) (hz : sumZ x.ps ≤ 1048576) :
    Calls Try.prog 18 #[.agg #[.int .i64 x.room, .slice x.a x.ps.length x.c], .int .i64 nm] w fun e w' => e = .returned (.tuple #[.string (readD x.room x.ps nm).1, .bool (readD x.room x.ps nm).2]) ∧ Below w.heap.size w w' := by
  have W0 := hide (Wd.made hr 26)
  have FD := hide (sFind _ x nm (unhide W0).r)
  have AT := hide (fun h => findF_in (ps := x.ps) (nm := nm) h)
  have RE := hide (show readD x.room x.ps nm = if OkD x.room x.ps ∧ 0 ≤ findF x.ps nm then (bytesAt x.ps (findF x.ps nm).toNat, true) else (ByteArray.empty, false) from rfl)
  generalize readD x.room x.ps nm = rr at *
  generalize findF x.ps nm = f at *
  have h20 := hr.n
  clear hr
  go_enter Try.func18, Try.ntmps18
  go_wp2_with fail
  refine (unhide FD).mono ?_
  rintro e w1 ⟨rfl, b1⟩
  have W1 := hide ((unhide W0).step b1)
  clear b1 FD W0
  have c0 := (unhide W1).c0
  have c1 := (unhide W1).c1
  have lt := (unhide W1).lt
  have OK0 := hide (sDiskOk w1 x (unhide W1).r hz)
  by_cases q : OkD x.room x.ps
  case neg =>
    have OK := hide (show Calls Try.prog 17 #[.agg #[.int .i64 x.room, .slice x.a x.ps.length x.c]] w1 fun e w' => e = .returned (.bool false) ∧ Below w1.heap.size w1 w' by have := unhide OK0; rw [decide_eq_false q] at this; exact this)
    have E := hide (show rr = (ByteArray.empty, false) by rw [unhide RE, if_neg (fun h => q h.1)])
    clear OK0 RE q AT
    go_wp2_with fail
    refine (unhide OK).mono ?_
    rintro e w2 ⟨rfl, b2⟩
    have W2 := hide ((unhide W1).step b2)
    clear b2
    go_wp2
    go_ret2
    exact ⟨by rw [unhide E]; rfl, (unhide W2).b⟩
  have OK := hide (show Calls Try.prog 17 #[.agg #[.int .i64 x.room, .slice x.a x.ps.length x.c]] w1 fun e w' => e = .returned (.bool true) ∧ Below w1.heap.size w1 w' by have := unhide OK0; rw [decide_eq_true q] at this; exact this)
  by_cases q0 : f < 0
  · have E := hide (show rr = (ByteArray.empty, false) by rw [unhide RE, if_neg (fun h => by omega)])
    clear OK0 RE q AT
    go_wp2_with fail
    refine (unhide OK).mono ?_
    rintro e w2 ⟨rfl, b2⟩
    have W2 := hide ((unhide W1).step b2)
    clear b2
    go_wp2
    go_ret2
    exact ⟨by rw [unhide E]; rfl, (unhide W2).b⟩
  · obtain ⟨k, rfl, kl, _⟩ := (unhide AT) (by omega)
    have E := hide (show rr = (bytesAt x.ps k, true) by rw [unhide RE, if_pos ⟨q, by omega⟩]; rfl)
    clear OK0 RE q AT
    have kt : (k : Int) < x.ps.length := by omega
    go_wp2_with fail
    refine (unhide OK).mono ?_
    rintro e w2 ⟨rfl, b2⟩
    have W2 := hide ((unhide W1).step b2)
    clear b2 c0 c1 lt W1
    have c1 := (unhide W2).c1
    have lt := (unhide W2).lt
    obtain ⟨g, ea, lg, d0, d1, d2⟩ := cells_of (unhide W2).r kl
    have ES := hide (show bytesAt x.ps k = (elF x.ps k).2.1 ++ (elF x.ps k).2.2 from rfl)
    have NX := sumZ_next kl
    have LE := sumZ_le x.ps (k + 1)
    have s1 : (elF x.ps k).2.1.size + (elF x.ps k).2.2.size ≤ 1048576 := by omega
    generalize (elF x.ps k).2.1 = z1 at *
    generalize (elF x.ps k).2.2 = z2 at *
    rw [ea] at c1
    clear ea NX LE
    go_wp2_with fail
    go_region
    go_wp2
    go_ret2
    exact ⟨by rw [unhide E, unhide ES]; rfl, (unhide W2).b.drew⟩
/-- The place of a file, and a code. -/
def atD (room : Int) (ps : List TF) (nm : Int) : Int × Int := if OkD room ps ∧ okN nm = true then (findF ps nm, if findF ps nm < 0 then 2 else 0) else (-1, 1)
set_option maxRecDepth 100000 in
set_option maxHeartbeats 4000000 in
theorem sAt (w : World) (x : Dx) (nm : Int) (hr : RdD w x) (hz : sumZ x.ps ≤ 1048576) :
    Calls Try.prog 54 #[.agg #[.int .i64 x.room, .slice x.a x.ps.length x.c], .int .i64 nm] w fun e w' => e = .returned (.tuple #[.int .i64 (atD x.room x.ps nm).1, .int .i64 (atD x.room x.ps nm).2]) ∧ Below w.heap.size w w' := by
  have W0 := hide (Wd.made hr 26)
  have OK0 := hide (sDiskOk _ x (unhide W0).r hz)
  have NM0 := hide (fun u => sName u nm)
  have FD := hide (fun u h => sFind u x nm h)
  have RE := hide (show atD x.room x.ps nm = if OkD x.room x.ps ∧ okN nm = true then (findF x.ps nm, if findF x.ps nm < 0 then 2 else 0) else (-1, 1) from rfl)
  generalize atD x.room x.ps nm = rr at *
  generalize findF x.ps nm = f at *
  clear hr
  by_cases q : OkD x.room x.ps
  case neg =>
    have OK := hide (show Calls Try.prog 17 #[.agg #[.int .i64 x.room, .slice x.a x.ps.length x.c]] _ fun e w' => e = .returned (.bool false) ∧ Below _ _ w' by have := unhide OK0; rw [decide_eq_false q] at this; exact this)
    have E := hide (show rr = (-1, 1) by rw [unhide RE, if_neg (fun h => q h.1)])
    clear OK0 RE q NM0 FD
    go_enter Try.func54, Try.ntmps54
    go_wp2_with fail
    refine (unhide OK).mono ?_
    rintro e w2 ⟨rfl, b2⟩
    have W2 := hide ((unhide W0).step b2)
    clear b2 W0 OK
    go_wp2
    go_ret2
    exact ⟨by rw [unhide E]; rfl, (unhide W2).b⟩
  have OK := hide (show Calls Try.prog 17 #[.agg #[.int .i64 x.room, .slice x.a x.ps.length x.c]] _ fun e w' => e = .returned (.bool true) ∧ Below _ _ w' by have := unhide OK0; rw [decide_eq_true q] at this; exact this)
  cases qn : okN nm
  · have NM := hide (fun u => by have := (unhide NM0) u; rw [qn] at this; exact this)
    have E := hide (show rr = (-1, 1) by rw [unhide RE, if_neg (fun h => by rw [qn] at h; exact absurd h.2 (by simp))])
    clear OK0 RE q NM0 FD
    go_enter Try.func54, Try.ntmps54
    go_wp2_with fail
    refine (unhide OK).mono ?_
    rintro e w2 ⟨rfl, b2⟩
    have W2 := hide ((unhide W0).step b2)
    clear b2 W0 OK
    go_wp2_with fail
    refine (unhide NM _).mono ?_
    rintro e w3 ⟨rfl, rfl⟩
    go_wp2
    go_ret2
    exact ⟨by rw [unhide E]; rfl, (unhide W2).b⟩
  · have NM := hide (fun u => by have := (unhide NM0) u; rw [qn] at this; exact this)
    have E := hide (show rr = (f, if f < 0 then 2 else 0) by rw [unhide RE, if_pos ⟨q, qn⟩])
    clear OK0 RE q NM0
    by_cases q0 : f < 0
    · have E1 := hide (show rr = (f, 2) by rw [unhide E, if_pos q0])
      clear E
      go_enter Try.func54, Try.ntmps54
      go_wp2_with fail
      refine (unhide OK).mono ?_
      rintro e w2 ⟨rfl, b2⟩
      have W2 := hide ((unhide W0).step b2)
      clear b2 W0 OK
      go_wp2_with fail
      refine (unhide NM _).mono ?_
      rintro e w3 ⟨rfl, rfl⟩
      have c0 := (unhide W2).c0
      have c1 := (unhide W2).c1
      go_wp2_with fail
      refine ((unhide FD) _ (unhide W2).r).mono ?_
      rintro e w4 ⟨rfl, b4⟩
      have W4 := hide ((unhide W2).step b4)
      clear b4 W2 c0 c1 FD
      go_wp2
      go_ret2
      exact ⟨by rw [unhide E1]; rfl, (unhide W4).b⟩
    · have E1 := hide (show rr = (f, 0) by rw [unhide E, if_neg q0])
      clear E
      go_enter Try.func54, Try.ntmps54
      go_wp2_with fail
      refine (unhide OK).mono ?_
      rintro e w2 ⟨rfl, b2⟩
      have W2 := hide ((unhide W0).step b2)
      clear b2 W0 OK
      go_wp2_with fail
      refine (unhide NM _).mono ?_
      rintro e w3 ⟨rfl, rfl⟩
      have c0 := (unhide W2).c0
      have c1 := (unhide W2).c1
      go_wp2_with fail
      refine ((unhide FD) _ (unhide W2).r).mono ?_
      rintro e w4 ⟨rfl, b4⟩
      have W4 := hide ((unhide W2).step b4)
      clear b4 W2 c0 c1 FD
      go_wp2
      go_ret2
      exact ⟨by rw [unhide E1]; rfl, (unhide W4).b⟩
end Go.Proofs.Ytcajdiopgaoicaa.SRd14
namespace Go.Proofs.Ytcajdiopgaoicaa.App14
open Go.ChangeShapes Go.WideShapes Go.ChangeAt Go.RowKit Fil14 DiskH14 DkH14 SDk14 SOk14 SRd14
theorem kcell {W W' : World} {G g : Nat} (k : W.grownBy W' (some G)) (o : Nat) (hg : g < W.heap.size) (hG : g ≠ G) : W'.cell? ⟨g, o, none⟩ = W.cell? ⟨g, o, none⟩ :=
  World.cell?_of_block (w := W) (k.block g hg (by simpa using hG))
theorem grow_grow {w w1 w2 : World} {row : Option Nat} (h : w.grownBy w1 row) (k : w1.grownBy w2 row) : w.grownBy w2 row :=
  ⟨k.os.trans h.os, k.tape.trans h.tape, k.output.trans h.output, Nat.le_trans h.size k.size, fun i hi hr => (k.block i (Nat.lt_of_lt_of_le hi h.size) hr).trans (h.block i hi hr)⟩
theorem grow_app {Wk wr u9 : World} {lit : Obj} {row : Option Nat} {G : Nat} (h : Wk.grownBy wr (some G)) (k : (wr.drew.alloc lit).grownBy u9 row) (hr : ∀ j, row = some j → Wk.heap.size ≤ j) : Wk.grownBy u9 (some G) :=
  ⟨k.os.trans h.os, k.tape.trans h.tape, k.output.trans h.output, Nat.le_trans h.size (Nat.le_trans (show wr.heap.size ≤ (wr.drew.alloc lit).heap.size from by show wr.heap.size ≤ (wr.drew.heap.push lit).size; rw [Array.size_push]; exact Nat.le_succ _) k.size), fun i hi hG => by
    have l : i < wr.drew.heap.size := Nat.lt_of_lt_of_le hi h.size
    refine (k.block i (by simp; exact Nat.lt_succ_of_lt l) (fun e => by have := hr i e.symm; omega)).trans ?_
    exact (Below.heap_alloc wr.drew lit i l).trans (h.block i hi hG)⟩
theorem row_kept {W W' : World} {base G : Nat} {e : TypeId} {m : Nat} {v : Value} {n : Nat} {vs : List Value} (h : W.ownsRow base e m v n vs) (k : W.grownBy W' (some G)) (hG : G < base) : W'.ownsRow base e m v n vs :=
  World.ownsRow.kept h k (by
    cases hb : v.ownBlock with
    | none => exact .inl rfl
    | some g => exact .inr (fun e => by have := (World.ownsRow.lt h g hb).1; injection e with e; omega))
/-- A row appended to a list that may be nil, at a step of a region that draws its order. -/
theorem step_app (u : World) {ops : Array Oper} {o : Oper} {a : Act} {K : Act → World → Prop} {Q : Exit → Act → World → Prop} {E : Prop} (hgd : o.guard = none) (s x : Operand) (t e : TypeId)
    (ho : o.op = .call { callee := .builtin .append, args := #[s, x], argTypes := #[t, t] }) (z : Value) (size bytes : Nat) (ht : Try.prog.underlying t = some (.slice e)) (hi : (Try.prog.info? e).map (fun i => (i.zero, i.size, i.bytes)) = some (some z, size, bytes)) (hzs : z.cells.size = size) (hsz : 0 < size) (hby : bytes ≤ 64)
    (base : Nat) (v : Value) (n : Nat) (xs : List Value) (vb : Nat) (news : List Value) (hs : a.eval s = v) (hx : a.eval x = .slice (some ⟨vb, 0, none⟩) 1 1) (hown : u.ownsRow base e size v n xs) (hl : news.length = size) (hc : ∀ j w, news[j]? = some w → u.cell? ⟨vb, j, none⟩ = some w) (h1 : ∀ w ∈ news, w.oneCell' = true) (hn : n ≤ 1048576) (hb : base ≤ u.heap.size)
    (h : ∀ g' c' w', w'.ownsRow base e size (.slice (some ⟨g', 0, none⟩) (n + 1) c') (n + 1) (xs ++ news) → u.grownBy w' v.ownBlock → K (a.put o.dst (.slice (some ⟨g', 0, none⟩) (n + 1) c')) w') : if Region.wanted o (yielded ops a.tmps) = true then Oper.wp Try.prog o a u K Q else E := by
  obtain ⟨i0, hi, hz0, hz1, hz2⟩ := info_parts hi
  have hw : Region.wanted o (yielded ops a.tmps) = true := by simp [Region.wanted, hgd]
  rw [if_pos hw]
  obtain ⟨v', w', hr, own', gr', nil', loc'⟩ := run_append_own_at (P := Try.prog) u base t o.type e i0 z size bytes ht hi hz0 hz1 hz2 hzs hsz v n xs hown ⟨vb, 0, none⟩ 1 1 news (by omega) (fun j w hj => by rw [Addr.add_lit, Nat.zero_add]; exact hc j w hj) h1 (by unfold maxLen; omega) (by have : (n + 1) * bytes ≤ 1048577 * 64 := Nat.mul_le_mul (by omega) hby; omega) hb
  unfold Oper.wp execOp
  simp only [ho, resolve, invoke, builtin, Sem.run_bind, Sem.run_pure, Result.andThen_ok, List.map_toArray, List.map_cons, List.map_nil, hs, hx, hr]
  rcases own'.2 with ⟨e1, _⟩ | ⟨g', c', cur, rfl, _⟩
  · rw [e1] at nil'; simp at nil'
  · exact h g' c' w' own' gr'
theorem row_base {W : World} {base base' : Nat} {e : TypeId} {m : Nat} {v : Value} {n : Nat} {vs : List Value} (h : W.ownsRow base e m v n vs) (hb : base' ≤ base) : W.ownsRow base' e m v n vs :=
  ⟨h.1, by
    rcases h.2 with h | ⟨g, c, cur, h1, h2, h3⟩
    · exact .inl h
    · exact .inr ⟨g, c, cur, h1, Nat.le_trans hb h2, h3⟩⟩
theorem litm (u : World) (news : List Value) (e : TypeId) (arr : Array Value) (h : arr = news.toArray) : ∀ j w, news[j]? = some w → (u.alloc (.cells arr e)).cell? ⟨u.heap.size, j, none⟩ = some w := by
  subst h
  intro j w hj
  simpa using hj
theorem flat_1 (ps : List TF) (p : TF) : flatF (ps ++ [p]) = flatF ps ++ [.int .i64 p.1, .string p.2.1, .string p.2.2] := by simp [flatF]
end Go.Proofs.Ytcajdiopgaoicaa.App14
