/- Commands and replies as bytes: the specification's CmdPack and ReplyPack. -/
import Derived.Test.YtnkbkaeafkdpiaaSGets11
import Derived.Test.YtnkbkaeafkdpiaaSCmd
import Derived.Deep.AppendLies
import Derived.Deep.RegionHeld3
namespace Go.Proofs.Ytnkbkaeafkdpiaa.SPack12
open Go.ChangeShapes Go.WideShapes Go.ChangeAt Go.RowKit SBytes SPut11 SPuts11 SGets11
open ByteH (Own At)
open SCmd (CmOk nArgs below_of_drew Cb sCmdOk)
open Lots (Says says_of)
set_option linter.unusedVariables false
set_option linter.unusedSimpArgs false

/-- Bytes appended to bytes of the call's own, at a step of a region that draws its order. -/
theorem step_catB (u : World) {ops : Array Oper} {o : Oper} {a : Act} {K : Act → World → Prop} {Q : Exit → Act → World → Prop} {E : Prop} (hgd : o.guard = none) (s x : Operand)
    (ho : o.op = .call { callee := .builtin .append, args := #[s, x], argTypes := #[22, 22] }) (base g n cap m : Nat) (xs ys : List Int) (vb off c : Nat)
    (hs : a.eval s = .slice (some ⟨g, 0, none⟩) n cap) (hx : a.eval x = .slice (some ⟨vb, off, none⟩) m c) (hown : Own u base g n cap xs) (hl : ys.length = m) (hv : AtO u vb off ys) (hn : n + m ≤ 9223372036854) (hb : base ≤ u.heap.size)
    (h : ∀ g' c' w', Own w' base g' (n + m) c' (xs ++ ys) → u.grownBy w' (some g) → (g' = g ∨ g' = u.heap.size) → K (a.put o.dst (.slice (some ⟨g', 0, none⟩) (n + m) c')) w') : if Region.wanted o (yielded ops a.tmps) = true then Oper.wp Try.prog o a u K Q else E := by
  obtain ⟨i0, hi, hz0, hz1, hz2⟩ := info_parts ByteH.info8
  have hw : Region.wanted o (yielded ops a.tmps) = true := by simp [Region.wanted, hgd]
  rw [if_pos hw]
  obtain ⟨v', w', hr, own', gr', nil', loc'⟩ := run_append_own_at (P := Try.prog) u base 22 o.type 5 i0 (.int .u8 0) 1 1 Try.underlying22 hi hz0 hz1 hz2 rfl (by decide) (.slice (some ⟨g, 0, none⟩) n cap) n (xs.map (Value.int .u8)) hown ⟨vb, off, none⟩ m c (ys.map (Value.int .u8)) (by simp [hl]) (fun j v hj => by
    have hj' : j < ys.length := by
      have := (List.getElem?_eq_some_iff.1 hj).1
      simpa using this
    have := hv j hj'
    rw [Addr.add_lit, this]
    rw [← hj]
    simp [List.getD, hj']) (by intro u hu; obtain ⟨y, _, rfl⟩ := List.mem_map.1 hu; simp [Value.oneCell']) (by unfold maxLen; omega) (by omega) hb
  unfold Oper.wp execOp
  simp only [ho, resolve, invoke, builtin, Sem.run_bind, Sem.run_pure, Result.andThen_ok, List.map_toArray, List.map_cons, List.map_nil, hs, hx, hr]
  obtain ⟨g', c', rfl, o'⟩ := own_of_row (n' := n + m) (xs := xs ++ ys) own' rfl (by simp) (by rw [nil']; simp)
  exact h g' c' w' o' gr' (by simpa [Value.ownBlock] using loc')

/-- Whether a number is an amount. -/
abbrev Amt (x : Int) : Prop := -1000000000000000 ≤ x ∧ x ≤ 1000000000000000

theorem sAmount (w : World) (x : Int) (b : Bool) (hb : Says b (Amt x)) : Calls Try.prog 35 #[.int .i64 x] w fun e w' => e = .returned (.bool b) ∧ w' = w := by
  by_cases h : Amt x
  · obtain rfl := hb.of h
    go_enter Try.func35, Try.ntmps35
    go_wp2_with fail
    refine (l1In_yes _ _ _ _ h.1 h.2).mono ?_
    rintro e u ⟨rfl, rfl⟩
    go_wp2
    go_ret
    exact ⟨rfl, rfl⟩
  · obtain rfl := hb.not h
    go_enter Try.func35, Try.ntmps35
    go_wp2_with fail
    refine (l1In_no _ _ _ _ h).mono ?_
    rintro e u ⟨rfl, rfl⟩
    go_wp2
    go_ret
    exact ⟨rfl, rfl⟩

/-- Whether a reply can be packed. -/
abbrev RpOk (c v : Int) : Prop := (0 ≤ c ∧ c ≤ 8) ∧ Amt v
/-- What ReplyPack answers. -/
def packR (c v : Int) : List Int := if RpOk c v then numB c ++ numB (v + 1000000000000000) else []

abbrev oR0 : Oper := { dst := some 15, op := Go.Op.fieldAddr 25 (Go.Operand.tmp 1) 0, type := 0, pos := "l12_code.go:29", after := #[], guard := none }
abbrev oR1 : Oper := { dst := some 16, op := Go.Op.load 3 (Go.Operand.tmp 15), type := 3, pos := "l12_code.go:29", after := #[{ on := 0, ground := Go.Ground.data }], guard := none }
abbrev oR2 : Oper := { dst := some 17, op := Go.Op.call { callee := Go.Callee.value (Go.Operand.func 36), args := #[Go.Operand.tmp 16], argTypes := #[3] }, type := 22, pos := "l12_code.go:29", after := #[{ on := 1, ground := Go.Ground.data }], guard := none }
abbrev oR3 : Oper := { dst := some 18, op := Go.Op.fieldAddr 25 (Go.Operand.tmp 1) 1, type := 0, pos := "l12_code.go:29", after := #[], guard := none }
abbrev oR4 : Oper := { dst := some 19, op := Go.Op.load 3 (Go.Operand.tmp 18), type := 3, pos := "l12_code.go:29", after := #[{ on := 3, ground := Go.Ground.data }], guard := none }
abbrev oR5 : Oper := { dst := some 20, op := Go.Op.binOp Go.BinOp.add 3 (Go.Operand.tmp 19) (Go.Operand.const (Go.Value.int Go.IntKind.i64 1000000000000000)) 3, type := 3, pos := "l12_code.go:29", after := #[{ on := 4, ground := Go.Ground.data }], guard := none }
abbrev oR6 : Oper := { dst := some 21, op := Go.Op.call { callee := Go.Callee.value (Go.Operand.func 36), args := #[Go.Operand.tmp 20], argTypes := #[3] }, type := 22, pos := "l12_code.go:29", after := #[{ on := 5, ground := Go.Ground.data }, { on := 2, ground := Go.Ground.chain }], guard := none }
abbrev oR7 : Oper := { dst := some 22, op := Go.Op.call { callee := Go.Callee.builtin Go.Builtin.append, args := #[Go.Operand.tmp 17, Go.Operand.tmp 21], argTypes := #[22, 22] }, type := 22, pos := "l12_code.go:29", after := #[{ on := 2, ground := Go.Ground.data }, { on := 6, ground := Go.Ground.data }, { on := 6, ground := Go.Ground.chain }], guard := none }
abbrev oR8 : Oper := { dst := some 2, op := Go.Op.assign (Go.Operand.tmp 22), type := 22, pos := "l12_code.go:29", after := #[{ on := 7, ground := Go.Ground.data }, { on := 7, ground := Go.Ground.chain }, { on := 0, ground := Go.Ground.phase }, { on := 1, ground := Go.Ground.phase }, { on := 2, ground := Go.Ground.phase }, { on := 3, ground := Go.Ground.phase }, { on := 4, ground := Go.Ground.phase }, { on := 5, ground := Go.Ground.phase }, { on := 6, ground := Go.Ground.phase }, { on := 7, ground := Go.Ground.phase }], guard := none }
abbrev oR9 : Oper := { dst := some 3, op := Go.Op.assign (Go.Operand.const (Go.Value.bool true)), type := 4, pos := "l12_code.go:29", after := #[{ on := 8, ground := Go.Ground.chain }, { on := 0, ground := Go.Ground.phase }, { on := 1, ground := Go.Ground.phase }, { on := 2, ground := Go.Ground.phase }, { on := 3, ground := Go.Ground.phase }, { on := 4, ground := Go.Ground.phase }, { on := 5, ground := Go.Ground.phase }, { on := 6, ground := Go.Ground.phase }, { on := 7, ground := Go.Ground.phase }, { on := 8, ground := Go.Ground.phase }], guard := none }

set_option maxRecDepth 100000 in
set_option maxHeartbeats 4000000 in
theorem sReplyPack (w : World) (c v : Int) :
    Calls Try.prog 11 #[.agg #[.int .i64 c, .int .i64 v]] w fun e w' => ∃ g k, e = .returned (.tuple #[.slice (some ⟨g, 0, none⟩) (packR c v).length k, .bool (decide (RpOk c v))]) ∧ Own w' w.heap.size g (packR c v).length k (packR c v) ∧ Below w.heap.size w w' := by
  have B0 := hide (one_more w (.cells #[.int .i64 c, .int .i64 v] 25))
  have K0 : (w.alloc (.cells #[.int .i64 c, .int .i64 v] 25)).cell? ⟨w.heap.size, 0, none⟩ = some (.int .i64 c) ∧ (w.alloc (.cells #[.int .i64 c, .int .i64 v] 25)).cell? ⟨w.heap.size, 1, none⟩ = some (.int .i64 v) := ⟨by simp, by simp⟩
  by_cases ok : RpOk c v
  case neg =>
    have e : packR c v = [] := if_neg ok
    have d : decide (RpOk c v) = false := by simpa using ok
    rw [e, d]
    have O1 := hide (lit0 (w.alloc (.cells #[.int .i64 c, .int .i64 v] 25)) w.heap.size (g := w.heap.size + 1) (unhide B0).size (by simp))
    have B1 := hide ((unhide B0).alloc (unhide B0).size (.cells #[] 5))
    clear e d
    by_cases h : 0 ≤ c ∧ c ≤ 8
    · obtain ⟨b, hb⟩ := says_of (Amt v)
      obtain rfl : b = false := hb.not (fun r => ok ⟨h, r⟩)
      have HB := hide hb
      have HH := hide h
      clear hb h ok
      go_enter Try.func11, Try.ntmps11
      go_wp2_with fail
      refine (l1In_yes _ _ _ _ (unhide HH).1 (unhide HH).2).mono ?_
      rintro e u ⟨rfl, rfl⟩
      go_wp2_with fail
      refine (sAmount _ v false (unhide HB)).mono ?_
      rintro e u ⟨rfl, rfl⟩
      go_wp2
      go_ret2
      exact ⟨_, 0, rfl, unhide O1, unhide B1⟩
    · have HH := hide h
      clear h ok
      go_enter Try.func11, Try.ntmps11
      go_wp2_with fail
      refine (l1In_no _ _ _ _ (unhide HH)).mono ?_
      rintro e u ⟨rfl, rfl⟩
      go_wp2
      go_ret2
      exact ⟨_, 0, rfl, unhide O1, unhide B1⟩
  have PL := hide (show packR c v = numB c ++ numB (v + 1000000000000000) from if_pos ok)
  have d : decide (RpOk c v) = true := by simpa using ok
  rw [d]
  obtain ⟨⟨c0, c8⟩, v0, v1⟩ := ok
  have N1 := numB_nine (x := c) (by omega)
  have N2 := numB_nine (x := v + 1000000000000000) (by omega)
  have q1 : wrap64 (v + 1000000000000000) = v + 1000000000000000 := by rw [wrap64]; omega
  have q2 : IntKind.i64.wrap (v + 1000000000000000) = v + 1000000000000000 := by rw [IntKind.wrap_i64]; omega
  obtain ⟨b, hb⟩ := says_of (Amt v)
  obtain rfl : b = true := hb.of ⟨v0, v1⟩
  have HB := hide hb
  clear hb d
  go_enter Try.func11, Try.ntmps11
  go_wp2_with fail
  refine (l1In_yes _ _ _ _ c0 c8).mono ?_
  rintro e u ⟨rfl, rfl⟩
  go_wp2_with fail
  refine (sAmount _ v true (unhide HB)).mono ?_
  rintro e u ⟨rfl, rfl⟩
  go_wp2_with fail
  refine wp_region_held_drew (S := (fun w' => w'.cell? ⟨w.heap.size, 0, none⟩ = some (.int .i64 c) ∧ w'.cell? ⟨w.heap.size, 1, none⟩ = some (.int .i64 v))) (by kernel_rfl) K0 (fun hHeld => ?_)
  refine wpAnyH_take (i := 0) (oi := oR0) (v := .pointer (some ⟨w.heap.size, 0, none⟩)) rfl (by kernel_rfl) (by kernel_rfl) (by kernel_rfl) (fun _ _ _ h => h) (Or.inl ⟨by rfl, fun w hSw => ?_⟩) hHeld ?_
  · (try dsimp only at hSw)
    unfold oR0
    go_simp
  try simp only [oR0, Act.put, List.setIfInBounds_toArray, List.set_cons_zero, List.set_cons_succ]
  refine wpAnyH_take (i := 1) (oi := oR1) (v := .int .i64 c) rfl (by kernel_rfl) (by kernel_rfl) (by kernel_rfl) (fun _ _ _ h => h) (Or.inl ⟨by rfl, fun w hSw => ?_⟩) hHeld ?_
  · (try dsimp only at hSw)
    unfold oR1
    go_simp
  try simp only [oR1, Act.put, List.setIfInBounds_toArray, List.set_cons_zero, List.set_cons_succ]
  refine wpAnyH_take (i := 3) (oi := oR3) (v := .pointer (some ⟨w.heap.size, 1, none⟩)) rfl (by kernel_rfl) (by kernel_rfl) (by kernel_rfl) (fun _ _ _ h => h) (Or.inl ⟨by rfl, fun w hSw => ?_⟩) hHeld ?_
  · (try dsimp only at hSw)
    unfold oR3
    go_simp
  try simp only [oR3, Act.put, List.setIfInBounds_toArray, List.set_cons_zero, List.set_cons_succ]
  refine wpAnyH_take (i := 4) (oi := oR4) (v := .int .i64 v) rfl (by kernel_rfl) (by kernel_rfl) (by kernel_rfl) (fun _ _ _ h => h) (Or.inl ⟨by rfl, fun w hSw => ?_⟩) hHeld ?_
  · (try dsimp only at hSw)
    unfold oR4
    go_simp
  try simp only [oR4, Act.put, List.setIfInBounds_toArray, List.set_cons_zero, List.set_cons_succ]
  refine wpAnyH_take (i := 5) (oi := oR5) (v := .int .i64 (v + 1000000000000000)) rfl (by kernel_rfl) (by kernel_rfl) (by kernel_rfl) (fun _ _ _ h => h) (Or.inl ⟨by rfl, fun w hSw => ?_⟩) hHeld ?_
  · (try dsimp only at hSw)
    unfold oR5
    go_simp
  try simp only [oR5, Act.put, List.setIfInBounds_toArray, List.set_cons_zero, List.set_cons_succ]
  refine wpAnyH_ready (rs := [2]) (by kernel_rfl) (by simp) ?_
  refine AllReadyH.cons (o := oR2) rfl (fun K hK => ?_) AllReadyH.nil
  unfold oR2
  go_simp
  go_wp2_with fail
  refine (sPutNum _ c (by omega)).mono ?_
  rintro e u1 ⟨g2, c2, rfl, o2, bb⟩
  have b2 := hide (below_of_drew bb)
  have Ku1 : u1.cell? ⟨w.heap.size, 0, none⟩ = some (.int .i64 c) ∧ u1.cell? ⟨w.heap.size, 1, none⟩ = some (.int .i64 v) := ⟨((unhide b2).cell (p := ⟨w.heap.size, 0, none⟩) (by simp)).trans K0.1, ((unhide b2).cell (p := ⟨w.heap.size, 1, none⟩) (by simp)).trans K0.2⟩
  have O2 := hide o2
  have SZ := hide (show w.heap.size < u1.heap.size from Nat.lt_of_lt_of_le (by simp) (unhide b2).size)
  clear bb
  go_wp2_with fail
  refine hK.out _ _ Ku1 (fun hHeld => ?_)
  clear hK K
  try simp only [oR2, Act.put, List.setIfInBounds_toArray, List.set_cons_zero, List.set_cons_succ]
  refine wpAnyH_ready (rs := [6]) (by kernel_rfl) (by simp) ?_
  refine AllReadyH.cons (o := oR6) rfl (fun K hK => ?_) AllReadyH.nil
  unfold oR6
  go_simp
  go_wp2_with fail
  refine (sPutNum _ (v + 1000000000000000) (by omega)).mono ?_
  rintro e u2 ⟨g6, c6, rfl, o6, bb⟩
  have b6 := hide bb
  have Ku2 : u2.cell? ⟨w.heap.size, 0, none⟩ = some (.int .i64 c) ∧ u2.cell? ⟨w.heap.size, 1, none⟩ = some (.int .i64 v) := ⟨((unhide b6).cell (p := ⟨w.heap.size, 0, none⟩) (unhide SZ)).trans Ku1.1, ((unhide b6).cell (p := ⟨w.heap.size, 1, none⟩) (unhide SZ)).trans Ku1.2⟩
  have O6 := hide o6
  replace O2 := hide ((unhide O2).below bb (unhide O2).lt.2)
  clear bb
  go_wp2_with fail
  refine hK.out _ _ Ku2 (fun hHeld => ?_)
  clear hK K
  try simp only [oR6, Act.put, List.setIfInBounds_toArray, List.set_cons_zero, List.set_cons_succ]
  refine wpAnyH_ready (rs := [7]) (by kernel_rfl) (by simp) ?_
  refine AllReadyH.cons (o := oR7) rfl (fun K hK => ?_) AllReadyH.nil
  have HZ : (w.alloc (.cells #[.int .i64 c, .int .i64 v] 25)).drew.heap.size = w.heap.size + 1 := by show (w.alloc (.cells #[.int .i64 c, .int .i64 v] 25)).heap.size = w.heap.size + 1; simp
  have L2 := (unhide O2).lt
  have L6 := (unhide O6).lt
  refine step_catB _ (by rfl) _ _ (by rfl) (w.alloc (.cells #[.int .i64 c, .int .i64 v] 25)).drew.heap.size g2 (numB c).length c2 (numB (v + 1000000000000000)).length (numB c) (numB (v + 1000000000000000)) g6 0 c6 (by rfl) (by rfl) (by exact unhide O2) (by rfl) (by exact AtO.of (unhide O6).at) (by omega) (by have a := (unhide b2).size; have b := (unhide b6).size; simp at a b ⊢; omega) ?_
  intro g9 c9 u9 o9 gr9 loc9
  have K9 : u9.cell? ⟨w.heap.size, 0, none⟩ = some (.int .i64 c) ∧ u9.cell? ⟨w.heap.size, 1, none⟩ = some (.int .i64 v) := ⟨gr9.cell Ku2.1 (fun e => by have a := (unhide b2).size; have b := (unhide b6).size; simp at a b; injection e with e; simp at e; omega), gr9.cell Ku2.2 (fun e => by have a := (unhide b2).size; have b := (unhide b6).size; simp at a b; injection e with e; simp at e; omega)⟩
  have O9 := hide o9
  refine hK.out _ _ K9 (fun hHeld => ?_)
  clear hK K
  try simp only [oR7, Act.put, List.setIfInBounds_toArray, List.set_cons_zero, List.set_cons_succ]
  refine wpAnyH_take (i := 8) (oi := oR8) (v := .slice (some ⟨g9, 0, none⟩) ((numB c).length + (numB (v + 1000000000000000)).length) c9) rfl (by kernel_rfl) (by kernel_rfl) (by kernel_rfl) (fun _ _ _ h => h) (Or.inl ⟨by rfl, fun w hSw => ?_⟩) hHeld ?_
  · (try dsimp only at hSw)
    unfold oR8
    go_simp
  try simp only [oR8, Act.put, List.setIfInBounds_toArray, List.set_cons_zero, List.set_cons_succ]
  refine wpAnyH_take (i := 9) (oi := oR9) (v := .bool true) rfl (by kernel_rfl) (by kernel_rfl) (by kernel_rfl) (fun _ _ _ h => h) (Or.inl ⟨by rfl, fun w hSw => ?_⟩) hHeld ?_
  · (try dsimp only at hSw)
    unfold oR9
    go_simp
  try simp only [oR9, Act.put, List.setIfInBounds_toArray, List.set_cons_zero, List.set_cons_succ]
  refine wpAnyH_done (by kernel_rfl) ?_ _
  have B9 := hide (show Below w.heap.size w u9 from ((unhide B0).trans ((unhide b2).mono (by simp)) |>.trans ((unhide b6).mono (by have a := (unhide b2).size; simp at a; omega))).grown gr9 (by have a := (unhide b2).size; have b := (unhide b6).size; simp at a b; omega) (fun j hj => by cases hj; have a := (unhide b2).size; have b := (unhide b6).size; simp at a b; omega))
  clear gr9 loc9 o9
  go_wp2
  go_ret2
  refine ⟨g9, c9, ?_, ?_, unhide B9⟩
  · rw [unhide PL, List.length_append]; rfl
  · rw [unhide PL, List.length_append]; exact (unhide O9).mono (by have a := (unhide b2).size; have b := (unhide b6).size; simp at a b; omega)

end Go.Proofs.Ytnkbkaeafkdpiaa.SPack12
