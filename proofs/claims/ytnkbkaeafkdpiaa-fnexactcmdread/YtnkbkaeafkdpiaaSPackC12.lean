/- Commands as bytes: the specification's CmdPack. -/
import Derived.Test.YtnkbkaeafkdpiaaSPack12
namespace Go.Proofs.Ytnkbkaeafkdpiaa.SPackC12
open Go.ChangeShapes Go.WideShapes Go.ChangeAt Go.RowKit SBytes SPut11 SPuts11 SGets11 SPack12
open ByteH (Own At)
open SCmd (CmOk nArgs below_of_drew Cb sCmdOk)
open Lots (Says says_of)
set_option linter.unusedVariables false
set_option linter.unusedSimpArgs false

/-- What CmdPack answers. -/
def packC (b : Bool) (k : Int) (xs : List Int) : List Int := if b = true then numB k ++ numsB xs else []

theorem kind_in {k : Int} {xs : List Int} (h : CmOk k xs) : 1 ≤ k ∧ k ≤ 11 := by
  have a := h.1
  unfold nArgs at a
  repeat' split at a
  all_goals omega

theorem args_in {k : Int} {xs : List Int} (h : CmOk k xs) : ∀ i, i < xs.length → xs.getD i 0 ≤ 9223372036854775807 := fun i hi => by have := h.2 i hi; omega

theorem nums_len (xs : List Int) (h : ∀ i, i < xs.length → xs.getD i 0 ≤ 9223372036854775807) : (numsB xs).length ≤ 9 * xs.length := by
  unfold numsB
  split
  · have := flat_len xs h xs.length (Nat.le_refl _)
    rw [List.take_length] at this
    exact this
  · simp

abbrev oC0 : Oper := { dst := some 8, op := Go.Op.fieldAddr 37 (Go.Operand.tmp 1) 0, type := 0, pos := "l12_code.go:9", after := #[], guard := none }
abbrev oC1 : Oper := { dst := some 9, op := Go.Op.load 3 (Go.Operand.tmp 8), type := 3, pos := "l12_code.go:9", after := #[{ on := 0, ground := Go.Ground.data }], guard := none }
abbrev oC2 : Oper := { dst := some 10, op := Go.Op.call { callee := Go.Callee.value (Go.Operand.func 36), args := #[Go.Operand.tmp 9], argTypes := #[3] }, type := 22, pos := "l12_code.go:9", after := #[{ on := 1, ground := Go.Ground.data }], guard := none }
abbrev oC3 : Oper := { dst := some 11, op := Go.Op.fieldAddr 37 (Go.Operand.tmp 1) 1, type := 0, pos := "l12_code.go:9", after := #[], guard := none }
abbrev oC4 : Oper := { dst := some 12, op := Go.Op.load 32 (Go.Operand.tmp 11), type := 32, pos := "l12_code.go:9", after := #[{ on := 3, ground := Go.Ground.data }], guard := none }
abbrev oC5 : Oper := { dst := some 13, op := Go.Op.call { callee := Go.Callee.value (Go.Operand.func 43), args := #[Go.Operand.tmp 12], argTypes := #[32] }, type := 22, pos := "l12_code.go:9", after := #[{ on := 4, ground := Go.Ground.data }, { on := 2, ground := Go.Ground.chain }], guard := none }
abbrev oC6 : Oper := { dst := some 14, op := Go.Op.call { callee := Go.Callee.builtin Go.Builtin.append, args := #[Go.Operand.tmp 10, Go.Operand.tmp 13], argTypes := #[22, 22] }, type := 22, pos := "l12_code.go:9", after := #[{ on := 2, ground := Go.Ground.data }, { on := 5, ground := Go.Ground.data }, { on := 5, ground := Go.Ground.chain }], guard := none }
abbrev oC7 : Oper := { dst := some 2, op := Go.Op.assign (Go.Operand.tmp 14), type := 22, pos := "l12_code.go:9", after := #[{ on := 6, ground := Go.Ground.data }, { on := 6, ground := Go.Ground.chain }, { on := 0, ground := Go.Ground.phase }, { on := 1, ground := Go.Ground.phase }, { on := 2, ground := Go.Ground.phase }, { on := 3, ground := Go.Ground.phase }, { on := 4, ground := Go.Ground.phase }, { on := 5, ground := Go.Ground.phase }, { on := 6, ground := Go.Ground.phase }], guard := none }
abbrev oC8 : Oper := { dst := some 3, op := Go.Op.assign (Go.Operand.const (Go.Value.bool true)), type := 4, pos := "l12_code.go:9", after := #[{ on := 7, ground := Go.Ground.chain }, { on := 0, ground := Go.Ground.phase }, { on := 1, ground := Go.Ground.phase }, { on := 2, ground := Go.Ground.phase }, { on := 3, ground := Go.Ground.phase }, { on := 4, ground := Go.Ground.phase }, { on := 5, ground := Go.Ground.phase }, { on := 6, ground := Go.Ground.phase }, { on := 7, ground := Go.Ground.phase }], guard := none }

set_option maxRecDepth 100000 in
set_option maxHeartbeats 4000000 in
theorem sCmdPack (w : World) (k : Int) (gl cap : Nat) (xs : List Int) (b : Bool) (h20 : xs.length ≤ 1048576) (hg : gl < w.heap.size) (hr : Ints.At w gl xs) (hb : Says b (CmOk k xs)) :
    Calls Try.prog 16 #[.agg #[.int .i64 k, .slice (some ⟨gl, 0, none⟩) xs.length cap]] w fun e w' => ∃ g c, e = .returned (.tuple #[.slice (some ⟨g, 0, none⟩) (packC b k xs).length c, .bool b]) ∧ Own w' w.heap.size g (packC b k xs).length c (packC b k xs) ∧ Below w.heap.size w w' := by
  have T := hide hb
  have L0 := hide (Cb.start (k := k) (cap := cap) hr hg 37)
  clear hr hg hb
  obtain ⟨k0, k1⟩ := (unhide L0).c
  go_enter Try.func16, Try.ntmps16
  go_wp2_with fail
  refine (sCmdOk _ k gl cap xs b h20 (unhide L0).l (unhide L0).r (unhide T)).mono ?_
  rintro e u1 ⟨rfl, bb⟩
  have L1 := hide ((unhide L0).step bb)
  have Z1 := hide bb.size
  clear bb k0 k1 L0
  obtain ⟨k0, k1⟩ := (unhide L1).c
  cases b with
  | false =>
    have O1 := hide (lit0 u1 w.heap.size (unhide L1).b.size rfl)
    have B1 := hide ((unhide L1).b.alloc (unhide L1).b.size (.cells #[] 5))
    go_wp2
    go_ret2
    exact ⟨_, 0, rfl, unhide O1, unhide B1⟩
  | true =>
    obtain ⟨i0, i1⟩ := kind_in (unhide T).yes
    have XI := hide (args_in (unhide T).yes)
    have N1 := numB_nine (x := k) (by omega)
    have N2 := nums_len xs (unhide XI)
    have K1 := (unhide L1).c
    go_wp2_with fail
    refine wp_region_held_drew (S := (fun w' => w'.cell? ⟨w.heap.size, 0, none⟩ = some (.int .i64 k) ∧ w'.cell? ⟨w.heap.size, 1, none⟩ = some (.slice (some ⟨gl, 0, none⟩) xs.length cap))) (by kernel_rfl) K1 (fun hHeld => ?_)
    refine wpAnyH_take (i := 0) (oi := oC0) (v := .pointer (some ⟨w.heap.size, 0, none⟩)) rfl (by kernel_rfl) (by kernel_rfl) (by kernel_rfl) (fun _ _ _ h => h) (Or.inl ⟨by rfl, fun w hSw => ?_⟩) hHeld ?_
    · (try dsimp only at hSw)
      unfold oC0
      go_simp
    try simp only [oC0, Act.put, List.setIfInBounds_toArray, List.set_cons_zero, List.set_cons_succ]
    refine wpAnyH_take (i := 1) (oi := oC1) (v := .int .i64 k) rfl (by kernel_rfl) (by kernel_rfl) (by kernel_rfl) (fun _ _ _ h => h) (Or.inl ⟨by rfl, fun w hSw => ?_⟩) hHeld ?_
    · (try dsimp only at hSw)
      unfold oC1
      go_simp
    try simp only [oC1, Act.put, List.setIfInBounds_toArray, List.set_cons_zero, List.set_cons_succ]
    refine wpAnyH_take (i := 3) (oi := oC3) (v := .pointer (some ⟨w.heap.size, 1, none⟩)) rfl (by kernel_rfl) (by kernel_rfl) (by kernel_rfl) (fun _ _ _ h => h) (Or.inl ⟨by rfl, fun w hSw => ?_⟩) hHeld ?_
    · (try dsimp only at hSw)
      unfold oC3
      go_simp
    try simp only [oC3, Act.put, List.setIfInBounds_toArray, List.set_cons_zero, List.set_cons_succ]
    refine wpAnyH_take (i := 4) (oi := oC4) (v := .slice (some ⟨gl, 0, none⟩) xs.length cap) rfl (by kernel_rfl) (by kernel_rfl) (by kernel_rfl) (fun _ _ _ h => h) (Or.inl ⟨by rfl, fun w hSw => ?_⟩) hHeld ?_
    · (try dsimp only at hSw)
      unfold oC4
      go_simp
    try simp only [oC4, Act.put, List.setIfInBounds_toArray, List.set_cons_zero, List.set_cons_succ]
    refine wpAnyH_ready (rs := [2]) (by kernel_rfl) (by simp) ?_
    refine AllReadyH.cons (o := oC2) rfl (fun K hK => ?_) AllReadyH.nil
    unfold oC2
    go_simp
    go_wp2_with fail
    refine (sPutNum _ k (by omega)).mono ?_
    rintro e u2 ⟨g2, c2, rfl, o2, bb⟩
    have L2 := hide ((unhide L1).step (below_of_drew bb))
    have K2 := (unhide L2).c
    have O2 := hide o2
    have Z2 := hide bb.size
    clear bb o2
    go_wp2_with fail
    refine hK.out _ _ K2 (fun hHeld => ?_)
    clear hK K
    try simp only [oC2, Act.put, List.setIfInBounds_toArray, List.set_cons_zero, List.set_cons_succ]
    refine wpAnyH_ready (rs := [5]) (by kernel_rfl) (by simp) ?_
    refine AllReadyH.cons (o := oC5) rfl (fun K hK => ?_) AllReadyH.nil
    unfold oC5
    go_simp
    go_wp2_with fail
    refine (sPutNums _ gl cap xs h20 (unhide L2).l (unhide L2).r (unhide XI)).mono ?_
    rintro e u3 ⟨g3, c3, rfl, o3, bb⟩
    have L3 := hide ((unhide L2).step bb)
    have K3 := (unhide L3).c
    have O3 := hide o3
    have Z3 := hide bb.size
    replace O2 := hide ((unhide O2).below bb (unhide O2).lt.2)
    clear bb o3
    go_wp2_with fail
    refine hK.out _ _ K3 (fun hHeld => ?_)
    clear hK K
    try simp only [oC5, Act.put, List.setIfInBounds_toArray, List.set_cons_zero, List.set_cons_succ]
    refine wpAnyH_ready (rs := [6]) (by kernel_rfl) (by simp) ?_
    refine AllReadyH.cons (o := oC6) rfl (fun K hK => ?_) AllReadyH.nil
    have HD : u1.drew.heap.size = u1.heap.size := rfl
    have l2 := (unhide O2).lt
    have l3 := (unhide O3).lt
    have z1 := unhide Z1
    have z2 := unhide Z2
    have z3 := unhide Z3
    have s1 := (unhide L1).s
    refine step_catB _ (by rfl) _ _ (by rfl) u1.drew.heap.size g2 (numB k).length c2 (numsB xs).length (numB k) (numsB xs) g3 0 c3 (by rfl) (by rfl) (by exact unhide O2) (by rfl) (by exact AtO.of (unhide O3).at) (by omega) (by omega) ?_
    intro g9 c9 u9 o9 gr9 loc9
    have K9 : u9.cell? ⟨w.heap.size, 0, none⟩ = some (.int .i64 k) ∧ u9.cell? ⟨w.heap.size, 1, none⟩ = some (.slice (some ⟨gl, 0, none⟩) xs.length cap) := ⟨gr9.cell K3.1 (fun e => by injection e with e; simp at e; omega), gr9.cell K3.2 (fun e => by injection e with e; simp at e; omega)⟩
    have O9 := hide o9
    have B9 := hide ((unhide L3).b.grown gr9 (by have := (unhide L3).b.size; omega) (fun j hj => by cases hj; omega))
    clear o9 gr9 loc9
    refine hK.out _ _ K9 (fun hHeld => ?_)
    clear hK K
    try simp only [oC6, Act.put, List.setIfInBounds_toArray, List.set_cons_zero, List.set_cons_succ]
    refine wpAnyH_take (i := 7) (oi := oC7) (v := .slice (some ⟨g9, 0, none⟩) ((numB k).length + (numsB xs).length) c9) rfl (by kernel_rfl) (by kernel_rfl) (by kernel_rfl) (fun _ _ _ h => h) (Or.inl ⟨by rfl, fun w hSw => ?_⟩) hHeld ?_
    · (try dsimp only at hSw)
      unfold oC7
      go_simp
    try simp only [oC7, Act.put, List.setIfInBounds_toArray, List.set_cons_zero, List.set_cons_succ]
    refine wpAnyH_take (i := 8) (oi := oC8) (v := .bool true) rfl (by kernel_rfl) (by kernel_rfl) (by kernel_rfl) (fun _ _ _ h => h) (Or.inl ⟨by rfl, fun w hSw => ?_⟩) hHeld ?_
    · (try dsimp only at hSw)
      unfold oC8
      go_simp
    try simp only [oC8, Act.put, List.setIfInBounds_toArray, List.set_cons_zero, List.set_cons_succ]
    refine wpAnyH_done (by kernel_rfl) ?_ _
    go_wp2
    go_ret2
    refine ⟨g9, c9, ?_, ?_, unhide B9⟩
    · show _ = Ending.returned (.tuple #[.slice (some ⟨g9, 0, none⟩) (packC true k xs).length c9, .bool true])
      rw [show packC true k xs = numB k ++ numsB xs from rfl, List.length_append]; rfl
    · rw [show packC true k xs = numB k ++ numsB xs from rfl, List.length_append]; exact (unhide O9).mono (by omega)

end Go.Proofs.Ytnkbkaeafkdpiaa.SPackC12
