/- Messages: how a command or a reply tells whether it fits, and its numbers; what is packed of them. -/
import Derived.Test.YtnkbkaeafkdpiaaIPuts11
import Derived.Test.YtnkbkaeafkdpiaaVOI
import Derived.Test.YtnkbkaeafkdpiaaVOB
import Derived.Test.YtnkbkaeafkdpiaaICall10
import Derived.Test.YtnkbkaeafkdpiaaSPackC12
import Derived.Deep.RegionHeld3
namespace Go.Proofs.Ytnkbkaeafkdpiaa.IMsg12
open Go.ChangeShapes Go.WideShapes Go.ChangeAt Go.RowKit SBytes SPut11 SPuts11 SPack12
open SCmd (CmOk nArgs Cb)
open Lots (Says says_of)
set_option linter.unusedVariables false
set_option linter.unusedSimpArgs false

/-- Numbers that lie from the head of a block on. -/
def AtI (w : World) (g : Nat) (xs : List Int) : Prop := ∀ i, i < xs.length → w.cell? ⟨g, i, none⟩ = some (.int .i64 (xs.getD i 0))

/-- Numbers appended to numbers of the call's own. -/
theorem wp_catI (u : World) {ops : Array Oper} {rest : List Oper} {o : Oper} {a : Act} {Q : Exit → Act → World → Prop} (hgd : o.guard = none) (s x : Operand)
    (ho : o.op = .call { callee := .builtin .append, args := #[s, x], argTypes := #[32, 32] }) (base g n cap m : Nat) (xs ys : List Int) (vb c : Nat)
    (hs : a.eval s = .slice (some ⟨g, 0, none⟩) n cap) (hx : a.eval x = .slice (some ⟨vb, 0, none⟩) m c) (hown : Ints.Own u base g n cap xs) (hl : ys.length = m) (hv : AtI u vb ys) (hn : n + m ≤ 100000000) (hb : base ≤ u.heap.size)
    (h : ∀ g' c' w', Ints.Own w' base g' (n + m) c' (xs ++ ys) → u.grownBy w' (some g) → (g' = g ∨ g' = u.heap.size) → wpList Try.prog ops Q rest (a.put o.dst (.slice (some ⟨g', 0, none⟩) (n + m) c')) w') : wpList Try.prog ops Q (o :: rest) a u := by
  obtain ⟨i0, hi, hz0, hz1, hz2⟩ := info_parts Ints.info3
  refine wpList_append_own_at u hgd s x 32 ho base 3 i0 (.int .i64 0) 1 8 Try.underlying32 hi hz0 hz1 hz2 rfl (by decide) _ n _ hs hown ⟨vb, 0, none⟩ m c (ys.map (Value.int .i64)) hx (by simp [hl]) (fun j v hj => by
    have hj' : j < ys.length := by
      have := (List.getElem?_eq_some_iff.1 hj).1
      simpa using this
    have := hv j hj'
    rw [Addr.add_lit, Nat.zero_add, this]
    rw [← hj]
    simp [List.getD, hj']) (by intro u hu; obtain ⟨y, _, rfl⟩ := List.mem_map.1 hu; simp [Value.oneCell']) (by unfold maxLen; omega) (by omega) hb ?_
  intro v' w' own' gr' nil' loc'
  obtain ⟨g', c', rfl, o'⟩ := own_of_rowI (n' := n + m) (xs := xs ++ ys) own' rfl (by simp) (by rw [nil']; simp)
  exact h g' c' w' o' gr' (by simpa [Value.ownBlock] using loc')

/-- The same at a step of a region that draws its order. -/
theorem step_catI (u : World) {ops : Array Oper} {o : Oper} {a : Act} {K : Act → World → Prop} {Q : Exit → Act → World → Prop} {E : Prop} (hgd : o.guard = none) (s x : Operand)
    (ho : o.op = .call { callee := .builtin .append, args := #[s, x], argTypes := #[32, 32] }) (base g n cap m : Nat) (xs ys : List Int) (vb c : Nat)
    (hs : a.eval s = .slice (some ⟨g, 0, none⟩) n cap) (hx : a.eval x = .slice (some ⟨vb, 0, none⟩) m c) (hown : Ints.Own u base g n cap xs) (hl : ys.length = m) (hv : AtI u vb ys) (hn : n + m ≤ 100000000) (hb : base ≤ u.heap.size)
    (h : ∀ g' c' w', Ints.Own w' base g' (n + m) c' (xs ++ ys) → u.grownBy w' (some g) → (g' = g ∨ g' = u.heap.size) → K (a.put o.dst (.slice (some ⟨g', 0, none⟩) (n + m) c')) w') : if Region.wanted o (yielded ops a.tmps) = true then Oper.wp Try.prog o a u K Q else E := by
  obtain ⟨i0, hi, hz0, hz1, hz2⟩ := info_parts Ints.info3
  have hw : Region.wanted o (yielded ops a.tmps) = true := by simp [Region.wanted, hgd]
  rw [if_pos hw]
  obtain ⟨v', w', hr, own', gr', nil', loc'⟩ := run_append_own_at (P := Try.prog) u base 32 o.type 3 i0 (.int .i64 0) 1 8 Try.underlying32 hi hz0 hz1 hz2 rfl (by decide) (.slice (some ⟨g, 0, none⟩) n cap) n (xs.map (Value.int .i64)) hown ⟨vb, 0, none⟩ m c (ys.map (Value.int .i64)) (by simp [hl]) (fun j v hj => by
    have hj' : j < ys.length := by
      have := (List.getElem?_eq_some_iff.1 hj).1
      simpa using this
    have := hv j hj'
    rw [Addr.add_lit, Nat.zero_add, this]
    rw [← hj]
    simp [List.getD, hj']) (by intro u hu; obtain ⟨y, _, rfl⟩ := List.mem_map.1 hu; simp [Value.oneCell']) (by unfold maxLen; omega) (by omega) hb
  unfold Oper.wp execOp
  simp only [ho, resolve, invoke, builtin, Sem.run_bind, Sem.run_pure, Result.andThen_ok, List.map_toArray, List.map_cons, List.map_nil, hs, hx, hr]
  obtain ⟨g', c', rfl, o'⟩ := own_of_rowI (n' := n + m) (xs := xs ++ ys) own' rfl (by simp) (by rw [nil']; simp)
  exact h g' c' w' o' gr' (by simpa [Value.ownBlock] using loc')

/-- The same at numbers that may be nil. -/
theorem step_catO (u : World) {ops : Array Oper} {o : Oper} {a : Act} {K : Act → World → Prop} {Q : Exit → Act → World → Prop} {E : Prop} (hgd : o.guard = none) (s x : Operand)
    (ho : o.op = .call { callee := .builtin .append, args := #[s, x], argTypes := #[32, 32] }) (base n cap m : Nat) (a0 : Option Addr) (xs ys : List Int) (vb c : Nat)
    (hs : a.eval s = .slice a0 n cap) (hx : a.eval x = .slice (some ⟨vb, 0, none⟩) m c) (hown : VOI.Ob u base a0 n cap xs) (hm : 0 < m) (hl : ys.length = m) (hv : AtI u vb ys) (hn : n + m ≤ 100000000) (hb : base ≤ u.heap.size)
    (h : ∀ g' c' w', Ints.Own w' base g' (n + m) c' (xs ++ ys) → u.grownBy w' (VOI.blk a0) → (a0 = some ⟨g', 0, none⟩ ∨ g' = u.heap.size) → K (a.put o.dst (.slice (some ⟨g', 0, none⟩) (n + m) c')) w') : if Region.wanted o (yielded ops a.tmps) = true then Oper.wp Try.prog o a u K Q else E := by
  obtain ⟨i0, hi, hz0, hz1, hz2⟩ := info_parts Ints.info3
  have hw : Region.wanted o (yielded ops a.tmps) = true := by simp [Region.wanted, hgd]
  rw [if_pos hw]
  obtain ⟨v', w', hr, own', gr', nil', loc'⟩ := run_append_own_at (P := Try.prog) u base 32 o.type 3 i0 (.int .i64 0) 1 8 Try.underlying32 hi hz0 hz1 hz2 rfl (by decide) (.slice a0 n cap) n (xs.map (Value.int .i64)) hown ⟨vb, 0, none⟩ m c (ys.map (Value.int .i64)) (by simp [hl]) (fun j v hj => by
    have hj' : j < ys.length := by
      have := (List.getElem?_eq_some_iff.1 hj).1
      simpa using this
    have := hv j hj'
    rw [Addr.add_lit, Nat.zero_add, this]
    rw [← hj]
    simp [List.getD, hj']) (by intro u hu; obtain ⟨y, _, rfl⟩ := List.mem_map.1 hu; simp [Value.oneCell']) (by unfold maxLen; omega) (by omega) hb
  unfold Oper.wp execOp
  simp only [ho, resolve, invoke, builtin, Sem.run_bind, Sem.run_pure, Result.andThen_ok, List.map_toArray, List.map_cons, List.map_nil, hs, hx, hr]
  obtain ⟨g', c', rfl, o'⟩ := own_of_rowI (n' := n + m) (xs := xs ++ ys) own' rfl (by simp) (by rw [nil']; rintro ⟨_, e⟩; omega)
  rcases hown.either with ⟨rfl, rfl, rfl⟩ | ⟨g, rfl, o⟩
  · exact h g' c' w' o' gr' (.inr (by simpa [Value.ownBlock] using loc'))
  · refine h g' c' w' o' gr' ?_
    have : g' = g ∨ g' = u.heap.size := by simpa [Value.ownBlock] using loc'
    rcases this with rfl | e
    · exact .inl rfl
    · exact .inr e


theorem iAmt (x : Int) (b : Bool) (w : World) (h : Says b (Amt x)) : Calls Try.prog 78 #[.int .i64 x] w fun e w' => e = .returned (.bool b) ∧ w' = w := by
  by_cases c1 : -1000000000000000 ≤ x
  · by_cases c2 : x ≤ 1000000000000000
    · obtain rfl : b = true := h.of ⟨c1, c2⟩
      clear h
      go_enter Try.func78, Try.ntmps78
      go_wp2
      go_ret
      exact ⟨rfl, rfl⟩
    · obtain rfl : b = false := h.not (fun r => by unfold Amt at r; omega)
      clear h
      go_enter Try.func78, Try.ntmps78
      go_wp2
      go_ret
      exact ⟨rfl, rfl⟩
  · obtain rfl : b = false := h.not (fun r => by unfold Amt at r; omega)
    clear h
    go_enter Try.func78, Try.ntmps78
    go_wp2
    go_ret
    exact ⟨rfl, rfl⟩

/-- Whether a reply fits. -/
theorem fitsR (w : World) (c v : Int) : Calls Try.prog 76 #[.agg #[.int .i64 c, .int .i64 v]] w fun e w' => e = .returned (.bool (decide (RpOk c v))) ∧ Below w.heap.size w w' := by
  by_cases h0 : 0 ≤ c
  case neg =>
    rw [show decide (RpOk c v) = false by simpa using fun r : RpOk c v => h0 r.1.1]
    go_enter Try.func76, Try.ntmps76
    go_wp2
    go_ret
    exact ⟨rfl, one_more _ _⟩
  by_cases h1 : c ≤ 8
  case neg =>
    rw [show decide (RpOk c v) = false by simpa using fun r : RpOk c v => h1 r.1.2]
    go_enter Try.func76, Try.ntmps76
    go_wp2
    go_ret
    exact ⟨rfl, one_more _ _⟩
  obtain ⟨b, hb⟩ := says_of (Amt v)
  have HB := hide hb
  have e : decide (RpOk c v) = b := by
    cases b with
    | false => simpa using fun r : RpOk c v => hb.no r.2
    | true => simpa using (show RpOk c v from ⟨⟨h0, h1⟩, hb.yes⟩)
  rw [e]
  clear e hb
  go_enter Try.func76, Try.ntmps76
  go_wp2_with fail
  refine (iAmt v b _ (unhide HB)).mono ?_
  rintro e u ⟨rfl, rfl⟩
  go_wp2
  go_ret
  exact ⟨rfl, one_more _ _⟩

/-- The numbers of a reply. -/
theorem numsR (w : World) (c v : Int) (h : RpOk c v) : Calls Try.prog 77 #[.agg #[.int .i64 c, .int .i64 v]] w fun e w' => ∃ g k, e = .returned (.slice (some ⟨g, 0, none⟩) 2 k) ∧ Ints.Own w' w.heap.size g 2 k [c, v + 1000000000000000] ∧ Below w.heap.size w w' := by
  obtain ⟨⟨c0, c8⟩, v0, v1⟩ := h
  have q1 : wrap64 (v + 1000000000000000) = v + 1000000000000000 := by rw [wrap64]; omega
  have q2 : IntKind.i64.wrap (v + 1000000000000000) = v + 1000000000000000 := by rw [IntKind.wrap_i64]; omega
  have O := hide (show Ints.Own ((w.alloc (.cells #[.int .i64 c, .int .i64 v] 25)).alloc (.cells #[.int .i64 c, .int .i64 (v + 1000000000000000)] 3)) w.heap.size (w.alloc (.cells #[.int .i64 c, .int .i64 v] 25)).heap.size 2 2 [c, v + 1000000000000000] from World.ownsRow_lit _ #[.int .i64 c, .int .i64 (v + 1000000000000000)] 2 (by simp) (by decide) rfl)
  have B := hide ((one_more w (.cells #[.int .i64 c, .int .i64 v] 25)).alloc (by simp) (.cells #[.int .i64 c, .int .i64 (v + 1000000000000000)] 3))
  go_enter Try.func77, Try.ntmps77
  go_wp2
  go_ret
  exact ⟨_, 2, rfl, by simpa using unhide O, unhide B⟩

/-- Whether a command fits. -/
theorem fitsC (w : World) (k : Int) (g cap : Nat) (xs : List Int) (b : Bool) (h20 : xs.length ≤ 1048576) (hg : g < w.heap.size) (hr : Ints.At w g xs) (hb : Says b (CmOk k xs)) :
    Calls Try.prog 79 #[.agg #[.int .i64 k, .slice (some ⟨g, 0, none⟩) xs.length cap]] w fun e w' => e = .returned (.bool b) ∧ Below w.heap.size w w' := by
  have T := hide hb
  have L0 := hide (Cb.start (k := k) (cap := cap) hr hg 37)
  clear hr hg hb
  obtain ⟨c0, c1⟩ := (unhide L0).c
  go_enter Try.func79, Try.ntmps79
  go_wp2_with fail
  refine (ICall10.iCmdOk _ k g cap xs b h20 (unhide L0).l (unhide L0).r (unhide T)).mono ?_
  rintro e u ⟨rfl, bb⟩
  have L1 := hide ((unhide L0).step bb)
  clear bb c0 c1
  go_wp2
  go_ret
  exact ⟨rfl, (unhide L1).b⟩

/-- The numbers of a command. -/
theorem numsC (w : World) (k : Int) (g cap : Nat) (xs : List Int) (h20 : xs.length ≤ 1048576) (hg : g < w.heap.size) (hr : Ints.At w g xs) :
    Calls Try.prog 80 #[.agg #[.int .i64 k, .slice (some ⟨g, 0, none⟩) xs.length cap]] w fun e w' => ∃ g' c, e = .returned (.slice (some ⟨g', 0, none⟩) (1 + xs.length) c) ∧ Ints.Own w' w.heap.size g' (1 + xs.length) c (k :: xs) ∧ Below w.heap.size w w' := by
  have L0 := hide (Cb.start (k := k) (cap := cap) hr hg 37)
  have O0 := hide (show Ints.Own ((w.alloc (.cells #[.int .i64 k, .slice (some ⟨g, 0, none⟩) xs.length cap] 37)).alloc (.cells #[.int .i64 k] 3)) w.heap.size (w.heap.size + 1) 1 1 [k] from by have := World.ownsRow_lit (base := w.heap.size) (size := 1) (e := 3) (w.alloc (.cells #[.int .i64 k, .slice (some ⟨g, 0, none⟩) xs.length cap] 37)) #[.int .i64 k] 1 (by simp) (by decide) rfl; simp at this; exact this)
  have B0 := hide ((unhide L0).b.alloc (by simp) (.cells #[.int .i64 k] 3))
  have R := hide (show AtI ((w.alloc (.cells #[.int .i64 k, .slice (some ⟨g, 0, none⟩) xs.length cap] 37)).alloc (.cells #[.int .i64 k] 3)) g xs from fun i hi => (Ints.At.below (unhide L0).r (one_more _ _) (unhide L0).l) i hi)
  clear hr hg
  obtain ⟨c0, c1⟩ := (unhide L0).c
  go_enter Try.func80, Try.ntmps80
  go_wp2_with (first | (at_builtin; refine wp_catI _ rfl _ _ rfl w.heap.size (w.heap.size + 1) 1 1 xs.length [k] xs g cap (by simp [Act.eval]) (by rfl) (unhide O0) rfl (unhide R) (by omega) (by simp; omega) ?_) | go_in)
  intro g5 c5 w5 o5 gr5 loc5
  have O5 := hide o5
  have B5 := hide ((unhide B0).grown gr5 (by simp; omega) (fun j hj => by cases hj; omega))
  clear o5 gr5 loc5 R O0 B0 c0 c1 L0
  go_wp2
  go_ret
  exact ⟨g5, c5, rfl, unhide O5, unhide B5⟩

end Go.Proofs.Ytnkbkaeafkdpiaa.IMsg12
