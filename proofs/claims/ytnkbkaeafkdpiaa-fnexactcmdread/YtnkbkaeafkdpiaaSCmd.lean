/- The specification's CmdArgs and CmdOk: how many arguments a kind of command has, and whether a command is formed. -/
import Derived.Test.YtnkbkaeafkdpiaaInts
import Derived.Test.YtnkbkaeafkdpiaaLots
import Derived.Deep.RegionHeld3
namespace Go.Proofs.Ytnkbkaeafkdpiaa.SCmd
open Go.ChangeShapes Go.WideShapes Go.ChangeAt Go.RowKit
open Lots (Says says_of)
set_option linter.unusedVariables false
set_option linter.unusedSimpArgs false

theorem hide {p : Prop} (h : p) : Hid p := h
theorem unhide {p : Prop} (h : Hid p) : p := h
theorem one_more (w : World) (o : Obj) : Below w.heap.size w (w.alloc o) := (Below.refl _ _).alloc (Nat.le_refl _) _

/-- How many arguments a kind of command has; -1 at any other number. -/
def nArgs (k : Int) : Int := if k = 1 ∨ k = 2 ∨ k = 7 then 2 else if k = 3 ∨ k = 4 then 5 else if k = 5 ∨ k = 9 then 7 else if k = 6 then 1 else if k = 8 then 3 else if k = 10 ∨ k = 11 then 4 else -1

/-- Whether a command is formed. -/
def CmOk (k : Int) (xs : List Int) : Prop := (xs.length : Int) = nArgs k ∧ ∀ i, i < xs.length → 0 ≤ xs.getD i 0 ∧ xs.getD i 0 ≤ 1000000000000000

theorem nArgs_le (k : Int) : nArgs k ≤ 7 := by
  unfold nArgs
  repeat' split
  all_goals omega

set_option maxRecDepth 100000 in
set_option maxHeartbeats 8000000 in
theorem sArgs (w : World) (k : Int) : Calls Try.prog 48 #[.int .i64 k] w fun e w' => e = .returned (.int .i64 (nArgs k)) ∧ Below w.heap.size w w' := by
  by_cases h0 : k < 1
  · have e : nArgs k = -1 := by
      unfold nArgs
      repeat' split
      all_goals omega
    have q : ¬ 1 ≤ k := by omega
    rw [e]
    clear h0 e
    go_enter Try.func48, Try.ntmps48
    go_wp2
    go_ret
    exact ⟨rfl, Below.refl _ _⟩
  by_cases h1 : 11 < k
  · have e : nArgs k = -1 := by
      unfold nArgs
      repeat' split
      all_goals omega
    have q : 1 ≤ k := by omega
    have q1 : ¬ k ≤ 11 := by omega
    rw [e]
    clear h0 h1 e
    go_enter Try.func48, Try.ntmps48
    go_wp2
    go_ret
    exact ⟨rfl, Below.refl _ _⟩
  have : k = 1 ∨ k = 2 ∨ k = 3 ∨ k = 4 ∨ k = 5 ∨ k = 6 ∨ k = 7 ∨ k = 8 ∨ k = 9 ∨ k = 10 ∨ k = 11 := by omega
  rcases this with rfl | rfl | rfl | rfl | rfl | rfl | rfl | rfl | rfl | rfl | rfl
  all_goals
    clear h0 h1
    go_enter Try.func48, Try.ntmps48
    go_wp2
    go_ret
    exact ⟨rfl, one_more _ _⟩

theorem below_of_drew {w w' : World} (h : Below w.drew.heap.size w.drew w') : Below w.heap.size w w' := ⟨h.os, h.tape, h.output, h.size, h.block⟩

/-- A command in its box. -/
structure Cb (w W : World) (k : Int) (g cap : Nat) (xs : List Int) : Prop where
  r : Ints.At W g xs
  l : g < W.heap.size
  c : W.cell? ⟨w.heap.size, 0, none⟩ = some (.int .i64 k) ∧ W.cell? ⟨w.heap.size, 1, none⟩ = some (.slice (some ⟨g, 0, none⟩) xs.length cap)
  b : Below w.heap.size w W
  s : w.heap.size < W.heap.size

theorem Cb.step {w W W' : World} {k : Int} {g cap : Nat} {xs : List Int} (h : Cb w W k g cap xs) (q : Below W.heap.size W W') : Cb w W' k g cap xs :=
  ⟨h.r.below q h.l, Nat.lt_of_lt_of_le h.l q.size, ⟨(q.cell (p := ⟨w.heap.size, 0, none⟩) h.s).trans h.c.1, (q.cell (p := ⟨w.heap.size, 1, none⟩) h.s).trans h.c.2⟩, h.b.trans (q.mono (Nat.le_of_lt h.s)), Nat.lt_of_lt_of_le h.s q.size⟩

theorem Cb.start {w : World} {k : Int} {g cap : Nat} {xs : List Int} (h : Ints.At w g xs) (hg : g < w.heap.size) (e : TypeId) : Cb w (w.alloc (.cells #[.int .i64 k, .slice (some ⟨g, 0, none⟩) xs.length cap] e)) k g cap xs :=
  ⟨h.below (one_more _ _) hg, Nat.lt_of_lt_of_le hg (one_more _ _).size, ⟨by simp, by simp⟩, one_more _ _, by simp⟩

abbrev oC0 : Oper := { dst := some 4, op := Go.Op.fieldAddr 37 (Go.Operand.tmp 1) 0, type := 0, pos := "l10_command.go:13", after := #[], guard := none }
abbrev oC1 : Oper := { dst := some 5, op := Go.Op.load 3 (Go.Operand.tmp 4), type := 3, pos := "l10_command.go:13", after := #[{ on := 0, ground := Go.Ground.data }], guard := none }
abbrev oC2 : Oper := { dst := some 6, op := Go.Op.call { callee := Go.Callee.value (Go.Operand.func 48), args := #[Go.Operand.tmp 5], argTypes := #[3] }, type := 3, pos := "l10_command.go:13", after := #[{ on := 1, ground := Go.Ground.data }], guard := none }
abbrev oC3 : Oper := { dst := some 7, op := Go.Op.binOp Go.BinOp.lss 3 (Go.Operand.tmp 6) (Go.Operand.const (Go.Value.int Go.IntKind.i64 0)) 3, type := 4, pos := "l10_command.go:13", after := #[{ on := 2, ground := Go.Ground.data }], guard := none }
abbrev oC4 : Oper := { dst := some 8, op := Go.Op.move (Go.Operand.tmp 7), type := 4, pos := "l10_command.go:13", after := #[{ on := 3, ground := Go.Ground.data }, { on := 2, ground := Go.Ground.chain }], guard := none }
abbrev oC5 : Oper := { dst := some 9, op := Go.Op.fieldAddr 37 (Go.Operand.tmp 1) 1, type := 0, pos := "l10_command.go:13", after := #[{ on := 4, ground := Go.Ground.guard }], guard := some (4, false) }
abbrev oC6 : Oper := { dst := some 10, op := Go.Op.load 32 (Go.Operand.tmp 9), type := 32, pos := "l10_command.go:13", after := #[{ on := 5, ground := Go.Ground.data }, { on := 4, ground := Go.Ground.guard }], guard := some (4, false) }
abbrev oC7 : Oper := { dst := some 11, op := Go.Op.call { callee := Go.Callee.builtin Go.Builtin.len, args := #[Go.Operand.tmp 10], argTypes := #[32] }, type := 3, pos := "l10_command.go:13", after := #[{ on := 6, ground := Go.Ground.data }, { on := 4, ground := Go.Ground.guard }], guard := some (4, false) }
abbrev oC8 : Oper := { dst := some 12, op := Go.Op.fieldAddr 37 (Go.Operand.tmp 1) 0, type := 0, pos := "l10_command.go:13", after := #[{ on := 4, ground := Go.Ground.guard }], guard := some (4, false) }
abbrev oC9 : Oper := { dst := some 13, op := Go.Op.load 3 (Go.Operand.tmp 12), type := 3, pos := "l10_command.go:13", after := #[{ on := 8, ground := Go.Ground.data }, { on := 4, ground := Go.Ground.guard }], guard := some (4, false) }
abbrev oC10 : Oper := { dst := some 14, op := Go.Op.call { callee := Go.Callee.value (Go.Operand.func 48), args := #[Go.Operand.tmp 13], argTypes := #[3] }, type := 3, pos := "l10_command.go:13", after := #[{ on := 9, ground := Go.Ground.data }, { on := 4, ground := Go.Ground.chain }, { on := 4, ground := Go.Ground.guard }], guard := some (4, false) }
abbrev oC11 : Oper := { dst := some 15, op := Go.Op.binOp Go.BinOp.neq 3 (Go.Operand.tmp 11) (Go.Operand.tmp 14) 3, type := 4, pos := "l10_command.go:13", after := #[{ on := 7, ground := Go.Ground.data }, { on := 10, ground := Go.Ground.data }, { on := 4, ground := Go.Ground.guard }], guard := some (4, false) }
abbrev oC12 : Oper := { dst := some 16, op := Go.Op.pick (Go.Operand.tmp 8) (Go.Operand.const (Go.Value.bool true)) (Go.Operand.tmp 15), type := 4, pos := "l10_command.go:13", after := #[{ on := 4, ground := Go.Ground.data }, { on := 11, ground := Go.Ground.data }], guard := none }

set_option maxRecDepth 100000 in
set_option maxHeartbeats 8000000 in
theorem sCmdOk (w : World) (k : Int) (g cap : Nat) (xs : List Int) (b : Bool) (h20 : xs.length ≤ 1048576) (hg : g < w.heap.size) (hr : Ints.At w g xs) (hb : Says b (CmOk k xs)) :
    Calls Try.prog 42 #[.agg #[.int .i64 k, .slice (some ⟨g, 0, none⟩) xs.length cap]] w fun e w' => e = .returned (.bool b) ∧ Below w.heap.size w w' := by
  have T := hide hb
  have L0 := hide (Cb.start (k := k) (cap := cap) hr hg 37)
  clear hr hg hb
  by_cases a0 : nArgs k < 0
  · have F := hide ((unhide T).not (fun h => by have := h.1; omega))
    clear T
    have A0 := hide a0
    generalize hn : nArgs k = n at *
    have HN := hide hn
    clear hn
    go_enter Try.func42, Try.ntmps42
    go_wp2_with fail
    have K0 := (unhide L0).c
    refine wp_region_held_drew (S := (fun w' => w'.cell? ⟨w.heap.size, 0, none⟩ = some (.int .i64 k) ∧ w'.cell? ⟨w.heap.size, 1, none⟩ = some (.slice (some ⟨g, 0, none⟩) xs.length cap))) (by kernel_rfl) K0 (fun hHeld => ?_)
    refine wpAnyH_take (i := 0) (oi := oC0) (v := .pointer (some ⟨w.heap.size, 0, none⟩)) rfl (by kernel_rfl) (by kernel_rfl) (by kernel_rfl) (fun _ _ _ h => h) (Or.inl ⟨by rfl, fun w hSw => ?_⟩) hHeld ?_
    · (try dsimp only at hSw)
      unfold oC0
      go_simp
    try simp only [oC0, Act.put, List.setIfInBounds_toArray, List.set_cons_zero, List.set_cons_succ]
    refine wpAnyH_take (i := 1) (oi := oC1) (v := .int .i64 k) rfl (by kernel_rfl) (by kernel_rfl) (by kernel_rfl) (fun _ _ _ h => h) (Or.inl ⟨by rfl, fun w hSw => ?_⟩) hHeld ?_
    · (try dsimp only at hSw)
      unfold oC1
      go_simp
    try simp only [oC1, Act.put, List.setIfInBounds_toArray, List.set_cons_zero, List.set_cons_succ]
    refine wpAnyH_ready (rs := [2]) (by kernel_rfl) (by simp) ?_
    refine AllReadyH.cons (o := oC2) rfl (fun K hK => ?_) AllReadyH.nil
    unfold oC2
    go_simp
    go_wp2_with fail
    refine (sArgs _ k).mono ?_
    rintro e u1 ⟨rfl, bb⟩
    rw [unhide HN]
    have L1 := hide ((unhide L0).step (below_of_drew bb))
    have K1 := (unhide L1).c
    clear bb
    go_wp2_with fail
    refine hK.out _ _ K1 (fun hHeld => ?_)
    clear hK K
    try simp only [oC2, Act.put, List.setIfInBounds_toArray, List.set_cons_zero, List.set_cons_succ]
    refine wpAnyH_take (i := 3) (oi := oC3) (v := .bool true) rfl (by kernel_rfl) (by kernel_rfl) (by kernel_rfl) (fun _ _ _ h => h) (Or.inl ⟨by rfl, fun w hSw => ?_⟩) hHeld ?_
    · (try dsimp only at hSw)
      unfold oC3
      go_simp
    try simp only [oC3, Act.put, List.setIfInBounds_toArray, List.set_cons_zero, List.set_cons_succ]
    refine wpAnyH_take (i := 4) (oi := oC4) (v := .bool true) rfl (by kernel_rfl) (by kernel_rfl) (by kernel_rfl) (fun _ _ _ h => h) (Or.inl ⟨by rfl, fun w hSw => ?_⟩) hHeld ?_
    · (try dsimp only at hSw)
      unfold oC4
      go_simp
    try simp only [oC4, Act.put, List.setIfInBounds_toArray, List.set_cons_zero, List.set_cons_succ]
    refine wpAnyH_take (i := 5) (oi := oC5) (v := undef) rfl (by kernel_rfl) (by kernel_rfl) (by kernel_rfl) (fun _ _ _ h => h) (Or.inr ⟨by rfl, rfl⟩) hHeld ?_
    try simp only [oC5, Act.put, List.setIfInBounds_toArray, List.set_cons_zero, List.set_cons_succ]
    refine wpAnyH_take (i := 6) (oi := oC6) (v := undef) rfl (by kernel_rfl) (by kernel_rfl) (by kernel_rfl) (fun _ _ _ h => h) (Or.inr ⟨by rfl, rfl⟩) hHeld ?_
    try simp only [oC6, Act.put, List.setIfInBounds_toArray, List.set_cons_zero, List.set_cons_succ]
    refine wpAnyH_take (i := 7) (oi := oC7) (v := undef) rfl (by kernel_rfl) (by kernel_rfl) (by kernel_rfl) (fun _ _ _ h => h) (Or.inr ⟨by rfl, rfl⟩) hHeld ?_
    try simp only [oC7, Act.put, List.setIfInBounds_toArray, List.set_cons_zero, List.set_cons_succ]
    refine wpAnyH_take (i := 8) (oi := oC8) (v := undef) rfl (by kernel_rfl) (by kernel_rfl) (by kernel_rfl) (fun _ _ _ h => h) (Or.inr ⟨by rfl, rfl⟩) hHeld ?_
    try simp only [oC8, Act.put, List.setIfInBounds_toArray, List.set_cons_zero, List.set_cons_succ]
    refine wpAnyH_take (i := 9) (oi := oC9) (v := undef) rfl (by kernel_rfl) (by kernel_rfl) (by kernel_rfl) (fun _ _ _ h => h) (Or.inr ⟨by rfl, rfl⟩) hHeld ?_
    try simp only [oC9, Act.put, List.setIfInBounds_toArray, List.set_cons_zero, List.set_cons_succ]
    refine wpAnyH_take (i := 10) (oi := oC10) (v := undef) rfl (by kernel_rfl) (by kernel_rfl) (by kernel_rfl) (fun _ _ _ h => h) (Or.inr ⟨by rfl, rfl⟩) hHeld ?_
    try simp only [oC10, Act.put, List.setIfInBounds_toArray, List.set_cons_zero, List.set_cons_succ]
    refine wpAnyH_take (i := 11) (oi := oC11) (v := undef) rfl (by kernel_rfl) (by kernel_rfl) (by kernel_rfl) (fun _ _ _ h => h) (Or.inr ⟨by rfl, rfl⟩) hHeld ?_
    try simp only [oC11, Act.put, List.setIfInBounds_toArray, List.set_cons_zero, List.set_cons_succ]
    refine wpAnyH_take (i := 12) (oi := oC12) (v := .bool true) rfl (by kernel_rfl) (by kernel_rfl) (by kernel_rfl) (fun _ _ _ h => h) (Or.inl ⟨by rfl, fun w hSw => ?_⟩) hHeld ?_
    · (try dsimp only at hSw)
      unfold oC12
      go_simp
    try simp only [oC12, Act.put, List.setIfInBounds_toArray, List.set_cons_zero, List.set_cons_succ]
    refine wpAnyH_done (by kernel_rfl) ?_ _
    clear K0 K1
    go_wp2
    go_ret
    exact ⟨by rw [unhide F]; rfl, (unhide L1).b⟩
  by_cases a1 : (xs.length : Int) = nArgs k
  case neg =>
    have F := hide ((unhide T).not (fun h => a1 h.1))
    clear T
    generalize hn : nArgs k = n at *
    have HN := hide hn
    have h1 : ((xs.length : Int) != n) = true := by simpa using a1
    have a2 : decide (n < 0) = false := by simpa using a0
    have a3 : 0 ≤ n := by omega
    clear hn a1
    go_enter Try.func42, Try.ntmps42
    go_wp2_with fail
    have K0 := (unhide L0).c
    go_region_held3 (fun w' => w'.cell? ⟨w.heap.size, 0, none⟩ = some (.int .i64 k) ∧ w'.cell? ⟨w.heap.size, 1, none⟩ = some (.slice (some ⟨g, 0, none⟩) xs.length cap)) (first | exact K0 | exact K1 | exact K2)
      (first | (go_at_call 48; refine (sArgs u1 k).mono ?_; rintro e u2 ⟨rfl, bb⟩; rw [unhide HN]; have L2 := hide ((unhide L1).step bb); have K2 := (unhide L2).c; clear bb) | (go_at_call 48; refine (sArgs _ k).mono ?_; rintro e u1 ⟨rfl, bb⟩; rw [unhide HN]; have L1 := hide ((unhide L0).step (below_of_drew bb)); have K1 := (unhide L1).c; clear bb))
    clear K0 K1 K2
    go_wp2
    go_ret
    exact ⟨by rw [unhide F]; rfl, (unhide L2).b⟩
  have A1 := hide a1
  generalize hn : nArgs k = n at *
  have HN := hide hn
  have h1 : ((xs.length : Int) != n) = false := by simpa using a1
  have a2 : decide (n < 0) = false := by simpa using a0
  have a3 : 0 ≤ n := by omega
  clear hn a1
  go_enter Try.func42, Try.ntmps42
  go_wp2_with fail
  have K0 := (unhide L0).c
  go_region_held3 (fun w' => w'.cell? ⟨w.heap.size, 0, none⟩ = some (.int .i64 k) ∧ w'.cell? ⟨w.heap.size, 1, none⟩ = some (.slice (some ⟨g, 0, none⟩) xs.length cap)) (first | exact K0 | exact K1 | exact K2)
    (first | (go_at_call 48; refine (sArgs u1 k).mono ?_; rintro e u2 ⟨rfl, bb⟩; rw [unhide HN]; have L2 := hide ((unhide L1).step bb); have K2 := (unhide L2).c; clear bb) | (go_at_call 48; refine (sArgs _ k).mono ?_; rintro e u1 ⟨rfl, bb⟩; rw [unhide HN]; have L1 := hide ((unhide L0).step (below_of_drew bb)); have K1 := (unhide L1).c; clear bb))
  clear K0 K1 K2
  go_wp2
  clear a0 h1
  go_loopw [3] (fun i wr => ∃ (j : Nat), j ≤ xs.length ∧ i = .int .i64 j ∧ Cb w wr k g cap xs ∧ Hid (∀ i, i < j → 0 ≤ xs.getD i 0 ∧ xs.getD i 0 ≤ 1000000000000000)) (fun i _ => xs.length - (intOf i).toNat)
  case atStart => exact ⟨0, by omega, rfl, unhide L2, hide (fun i hi => absurd hi (by omega))⟩
  case round =>
    obtain ⟨j, hj, rfl, hS, HG⟩ := hrel
    clear L0 L1 L2
    obtain ⟨c0, c1⟩ := hS.c
    by_cases t : j < xs.length
    · have d := hS.r j t
      have BAD := hide (show ¬ (0 ≤ xs.getD j 0 ∧ xs.getD j 0 ≤ 1000000000000000) → b = false from fun hr => (unhide T).not (fun r => hr (r.2 j t)))
      have GOOD := hide (show (0 ≤ xs.getD j 0 ∧ xs.getD j 0 ≤ 1000000000000000) → ∀ i, i < j + 1 → 0 ≤ xs.getD i 0 ∧ xs.getD i 0 ≤ 1000000000000000 from fun hr i hi => by
        by_cases e : i = j
        · subst e; exact hr
        · exact (unhide HG) i (by omega))
      have S1 := hide hS
      clear HG hS
      generalize xs.getD j 0 = v at *
      by_cases v0 : 0 ≤ v
      case neg =>
        have F := hide ((unhide BAD) (fun h => v0 h.1))
        clear BAD GOOD T
        go_wp2
        go_ret
        exact ⟨by rw [unhide F]; rfl, (unhide S1).b⟩
      by_cases v1 : v ≤ 1000000000000000
      case neg =>
        have F := hide ((unhide BAD) (fun h => v1 h.2))
        clear BAD GOOD T
        go_wp2
        go_ret
        exact ⟨by rw [unhide F]; rfl, (unhide S1).b⟩
      have G := hide ((unhide GOOD) ⟨v0, v1⟩)
      clear BAD GOOD
      go_wp2
      go_roundw
      case rel => exact ⟨j + 1, by omega, by go_num, unhide S1, G⟩
      case measure => simp [intOf]; omega
    · have F := hide ((unhide T).of ⟨by rw [unhide HN]; exact unhide A1, fun i hi => (unhide HG) i (by omega)⟩)
      have S1 := hide hS
      clear hS
      go_wp2
      go_ret
      exact ⟨by rw [unhide F]; rfl, (unhide S1).b⟩

end Go.Proofs.Ytnkbkaeafkdpiaa.SCmd
