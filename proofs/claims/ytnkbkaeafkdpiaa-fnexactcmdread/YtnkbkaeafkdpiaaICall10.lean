/- The program's callOf: the struct of a command's kind, its fields the arguments, one by one; and CmdOk. -/
import Derived.Test.YtnkbkaeafkdpiaaICmd10
namespace Go.Proofs.Ytnkbkaeafkdpiaa.ICall10
open Go.ChangeShapes Go.WideShapes Go.ChangeAt Go.RowKit SCmd ICmd10
open Lots (Says says_of)
set_option linter.unusedVariables false
set_option linter.unusedSimpArgs false

set_option maxRecDepth 100000 in
theorem iFrom (x : Int) (b : Bool) (w : World) (hb : Says b (0 ≤ x ∧ x ≤ 1000000000000000)) : Calls Try.prog 83 #[.int .i64 0, .int .i64 x] w fun e w' => e = .returned (.bool b) ∧ w' = w := by
  by_cases h0 : 0 ≤ x
  · by_cases h1 : x ≤ 1000000000000000
    · have := hb.of ⟨h0, h1⟩
      subst this
      clear hb
      go_enter Try.func83, Try.ntmps83
      go_wp2
      go_ret
      exact ⟨rfl, rfl⟩
    · have := hb.not (fun r => h1 r.2)
      subst this
      clear hb
      go_enter Try.func83, Try.ntmps83
      go_wp2
      go_ret
      exact ⟨rfl, rfl⟩
  · have := hb.not (fun r => h0 r.1)
    subst this
    clear hb
    go_enter Try.func83, Try.ntmps83
    go_wp2
    go_ret
    exact ⟨rfl, rfl⟩

theorem enters {P : Program} {f : FuncId} {fn : Func} {c : Code} (hf : P.funcs[f]? = some fn) (hn : (fn.name == "runtime.NumGoroutine") = false) (hb : fn.body = some c) (args : Array Value) (w : World) :
    (callFunc f args).run P w = .ok (.enter f args) w := by
  have h1 : fn.name ≠ "runtime.NumGoroutine" := by simpa using hn
  simp [callFunc, hf, h1, hb]

/-- A struct of n numbers of the call's own. -/
def Rw (w : World) (base t n p : Nat) (xs : List Int) : Prop := w.ownsRow base t n (.slice (some ⟨p, 0, none⟩) 1 1) 1 (xs.map (Value.int .i64))
section
variable {w w' : World} {base t n p : Nat} {xs : List Int}
theorem Rw.lt (h : Rw w base t n p xs) : base ≤ p ∧ p < w.heap.size := World.ownsRow.lt h p rfl
theorem Rw.free (h : Rw w base t n p xs) (i : Nat) : w.frozen? ⟨p, i, none⟩ = false := World.ownsRow.frozenAt h i
theorem Rw.len (h : Rw w base t n p xs) : xs.length = n := by have := h.1; simpa using this
theorem Rw.at (h : Rw w base t n p xs) : Ints.At w p xs := by
  intro i hi
  have hl := h.len
  have := World.ownsRow.cellAt h i (by omega)
  rw [this]
  simp [List.getD, hi]
theorem Rw.mono {base' : Nat} (h : Rw w base t n p xs) (hb : base' ≤ base) : Rw w base' t n p xs := by
  refine ⟨h.1, ?_⟩
  rcases h.2 with ⟨h1, _⟩ | ⟨g', c, cur, h1, h2, h3⟩
  · simp at h1
  · exact .inr ⟨g', c, cur, h1, Nat.le_trans hb h2, h3⟩
theorem Rw.below {B : Nat} (h : Rw w base t n p xs) (k : Below B w w') (hg : p < B) : Rw w' base t n p xs := by
  refine ⟨h.1, ?_⟩
  rcases h.2 with ⟨h1, _⟩ | ⟨g', c, cur, h1, h2, h3, h4⟩
  · simp at h1
  · have e : p = g' := by simp at h1; exact h1.1
    subst e
    exact .inr ⟨p, c, cur, h1, h2, (k.block p hg).trans h3, h4⟩
theorem Rw.set (h : Rw w base t n p xs) (i : Nat) (x : Int) : Rw (w.setCell ⟨p, i, none⟩ (.int .i64 x)) base t n p (xs.set i x) ∧ w.grownBy (w.setCell ⟨p, i, none⟩ (.int .i64 x)) (some p) := by
  have := World.ownsRow.stored h i (.int .i64 x)
  refine ⟨?_, this.2⟩
  unfold Rw
  rw [List.map_set]
  exact this.1
end

/-- A kind of command: the type of its struct, its method args, how many fields it has. -/
structure Made (k : Int) (t s f n : Nat) : Prop where
  na : nArgs k = n
  nw : ∀ w, Calls Try.prog 57 #[.int .i64 k] w fun e w' => e = .returned (.tuple #[.iface t (.pointer (some ⟨w.heap.size, 0, none⟩)), .bool true]) ∧ Rw w' w.heap.size s n w.heap.size (List.replicate n 0) ∧ Below w.heap.size w w'
  me : ∀ v w, (Go.method 245 t v "loop.example/g00110/impl.args").run Try.prog w = .ok (f, v) w
  en : ∀ (args : Array Value) (u : World), (callFunc f args).run Try.prog u = .ok (.enter f args) u
  ar : ∀ w p, Calls Try.prog f #[.pointer (some ⟨p, 0, none⟩)] w (ToldP w p n)

set_option maxRecDepth 100000 in
theorem made1 : Made 1 94 96 84 2 := by
  refine ⟨rfl, fun w => (new_account w).mono ?_, fun v w => by kernel_rfl, fun _ _ => enters Try.func84 (by kernel_rfl) rfl _ _, fun w p => at_account w p⟩
  rintro e u ⟨rfl, rfl⟩
  exact ⟨rfl, ⟨rfl, .inr ⟨w.heap.size, 1, _, rfl, Nat.le_refl _, heap_alloc_new w _, Nat.le_refl _, by unfold maxLen; omega, rfl, rfl⟩⟩, one_more _ _⟩

set_option maxRecDepth 100000 in
theorem made2 : Made 2 97 98 85 2 := by
  refine ⟨rfl, fun w => (new_instr w).mono ?_, fun v w => by kernel_rfl, fun _ _ => enters Try.func85 (by kernel_rfl) rfl _ _, fun w p => at_instr w p⟩
  rintro e u ⟨rfl, rfl⟩
  exact ⟨rfl, ⟨rfl, .inr ⟨w.heap.size, 1, _, rfl, Nat.le_refl _, heap_alloc_new w _, Nat.le_refl _, by unfold maxLen; omega, rfl, rfl⟩⟩, one_more _ _⟩

set_option maxRecDepth 100000 in
theorem made3 : Made 3 99 101 86 5 := by
  refine ⟨rfl, fun w => (new_issue w).mono ?_, fun v w => by kernel_rfl, fun _ _ => enters Try.func86 (by kernel_rfl) rfl _ _, fun w p => at_issue w p⟩
  rintro e u ⟨rfl, rfl⟩
  exact ⟨rfl, ⟨rfl, .inr ⟨w.heap.size, 1, _, rfl, Nat.le_refl _, heap_alloc_new w _, Nat.le_refl _, by unfold maxLen; omega, rfl, rfl⟩⟩, one_more _ _⟩

set_option maxRecDepth 100000 in
theorem made4 : Made 4 102 104 87 5 := by
  refine ⟨rfl, fun w => (new_move w).mono ?_, fun v w => by kernel_rfl, fun _ _ => enters Try.func87 (by kernel_rfl) rfl _ _, fun w p => at_move w p⟩
  rintro e u ⟨rfl, rfl⟩
  exact ⟨rfl, ⟨rfl, .inr ⟨w.heap.size, 1, _, rfl, Nat.le_refl _, heap_alloc_new w _, Nat.le_refl _, by unfold maxLen; omega, rfl, rfl⟩⟩, one_more _ _⟩

set_option maxRecDepth 100000 in
theorem made5 : Made 5 105 107 88 7 := by
  refine ⟨rfl, fun w => (new_trade w).mono ?_, fun v w => by kernel_rfl, fun _ _ => enters Try.func88 (by kernel_rfl) rfl _ _, fun w p => at_trade w p⟩
  rintro e u ⟨rfl, rfl⟩
  exact ⟨rfl, ⟨rfl, .inr ⟨w.heap.size, 1, _, rfl, Nat.le_refl _, heap_alloc_new w _, Nat.le_refl _, by unfold maxLen; omega, rfl, rfl⟩⟩, one_more _ _⟩

set_option maxRecDepth 100000 in
theorem made6 : Made 6 108 110 89 1 := by
  refine ⟨rfl, fun w => (new_cancel w).mono ?_, fun v w => by kernel_rfl, fun _ _ => enters Try.func89 (by kernel_rfl) rfl _ _, fun w p => at_cancel w p⟩
  rintro e u ⟨rfl, rfl⟩
  exact ⟨rfl, ⟨rfl, .inr ⟨w.heap.size, 1, _, rfl, Nat.le_refl _, heap_alloc_new w _, Nat.le_refl _, by unfold maxLen; omega, rfl, rfl⟩⟩, one_more _ _⟩

set_option maxRecDepth 100000 in
theorem made7 : Made 7 111 113 90 2 := by
  refine ⟨rfl, fun w => (new_settle w).mono ?_, fun v w => by kernel_rfl, fun _ _ => enters Try.func90 (by kernel_rfl) rfl _ _, fun w p => at_settle w p⟩
  rintro e u ⟨rfl, rfl⟩
  exact ⟨rfl, ⟨rfl, .inr ⟨w.heap.size, 1, _, rfl, Nat.le_refl _, heap_alloc_new w _, Nat.le_refl _, by unfold maxLen; omega, rfl, rfl⟩⟩, one_more _ _⟩

set_option maxRecDepth 100000 in
theorem made8 : Made 8 114 116 91 3 := by
  refine ⟨rfl, fun w => (new_net w).mono ?_, fun v w => by kernel_rfl, fun _ _ => enters Try.func91 (by kernel_rfl) rfl _ _, fun w p => at_net w p⟩
  rintro e u ⟨rfl, rfl⟩
  exact ⟨rfl, ⟨rfl, .inr ⟨w.heap.size, 1, _, rfl, Nat.le_refl _, heap_alloc_new w _, Nat.le_refl _, by unfold maxLen; omega, rfl, rfl⟩⟩, one_more _ _⟩

set_option maxRecDepth 100000 in
theorem made9 : Made 9 117 119 92 7 := by
  refine ⟨rfl, fun w => (new_fx w).mono ?_, fun v w => by kernel_rfl, fun _ _ => enters Try.func92 (by kernel_rfl) rfl _ _, fun w p => at_fx w p⟩
  rintro e u ⟨rfl, rfl⟩
  exact ⟨rfl, ⟨rfl, .inr ⟨w.heap.size, 1, _, rfl, Nat.le_refl _, heap_alloc_new w _, Nat.le_refl _, by unfold maxLen; omega, rfl, rfl⟩⟩, one_more _ _⟩

set_option maxRecDepth 100000 in
theorem made10 : Made 10 120 122 93 4 := by
  refine ⟨rfl, fun w => (new_split w).mono ?_, fun v w => by kernel_rfl, fun _ _ => enters Try.func93 (by kernel_rfl) rfl _ _, fun w p => at_split w p⟩
  rintro e u ⟨rfl, rfl⟩
  exact ⟨rfl, ⟨rfl, .inr ⟨w.heap.size, 1, _, rfl, Nat.le_refl _, heap_alloc_new w _, Nat.le_refl _, by unfold maxLen; omega, rfl, rfl⟩⟩, one_more _ _⟩

set_option maxRecDepth 100000 in
theorem made11 : Made 11 123 125 94 4 := by
  refine ⟨rfl, fun w => (new_pay w).mono ?_, fun v w => by kernel_rfl, fun _ _ => enters Try.func94 (by kernel_rfl) rfl _ _, fun w p => at_pay w p⟩
  rintro e u ⟨rfl, rfl⟩
  exact ⟨rfl, ⟨rfl, .inr ⟨w.heap.size, 1, _, rfl, Nat.le_refl _, heap_alloc_new w _, Nat.le_refl _, by unfold maxLen; omega, rfl, rfl⟩⟩, one_more _ _⟩

/-- The struct's type behind a pointer, by the kind. -/
def tyC (k : Int) : Nat := if k = 1 then 94 else if k = 2 then 97 else if k = 3 then 99 else if k = 4 then 102 else if k = 5 then 105 else if k = 6 then 108 else if k = 7 then 111 else if k = 8 then 114 else if k = 9 then 117 else if k = 10 then 120 else if k = 11 then 123 else 0

theorem made_of (k : Int) (h : ¬ (k < 1 ∨ 11 < k)) : ∃ s f n, Made k (tyC k) s f n := by
  have : k = 1 ∨ k = 2 ∨ k = 3 ∨ k = 4 ∨ k = 5 ∨ k = 6 ∨ k = 7 ∨ k = 8 ∨ k = 9 ∨ k = 10 ∨ k = 11 := by omega
  rcases this with rfl | rfl | rfl | rfl | rfl | rfl | rfl | rfl | rfl | rfl | rfl
  · exact ⟨_, _, _, made1⟩
  · exact ⟨_, _, _, made2⟩
  · exact ⟨_, _, _, made3⟩
  · exact ⟨_, _, _, made4⟩
  · exact ⟨_, _, _, made5⟩
  · exact ⟨_, _, _, made6⟩
  · exact ⟨_, _, _, made7⟩
  · exact ⟨_, _, _, made8⟩
  · exact ⟨_, _, _, made9⟩
  · exact ⟨_, _, _, made10⟩
  · exact ⟨_, _, _, made11⟩

/-- A command in its box; behind it the struct of its kind, and the pointers to its fields. -/
structure Ca (w W : World) (k : Int) (g cap : Nat) (xs : List Int) (s n q j : Nat) : Prop where
  cb : Cb w W k g cap xs
  lg : g < w.heap.size
  rw : Rw W w.heap.size s n (w.heap.size + 1) (Ints.part xs n j)
  pt : Ptr W q (w.heap.size + 1) n
  lq : w.heap.size + 1 < q ∧ q < W.heap.size

theorem Ca.next {w W : World} {k : Int} {g cap : Nat} {xs : List Int} {s n q j : Nat} (h : Ca w W k g cap xs s n q j) (hx : xs.length = n) (hj : j < n) : Ca w (W.setCell ⟨w.heap.size + 1, j, none⟩ (.int .i64 (xs.getD j 0))) k g cap xs s n q (j + 1) := by
  obtain ⟨r1, r2⟩ := h.rw.set j (xs.getD j 0)
  rw [Ints.part_step xs n j hx hj] at r1
  have lg := h.lg
  have lq := h.lq
  have ne : ∀ b, b ≠ w.heap.size + 1 → some b ≠ some (w.heap.size + 1) := fun b hb e => hb (by injection e)
  have cb := h.cb
  exact ⟨⟨fun i hi => r2.cell (cb.r i hi) (ne _ (by simp; omega)), Nat.lt_of_lt_of_le cb.l r2.size, ⟨r2.cell cb.c.1 (ne _ (by simp)), r2.cell cb.c.2 (ne _ (by simp))⟩, cb.b.setCell (p := ⟨w.heap.size + 1, j, none⟩) (by simp) _, Nat.lt_of_lt_of_le cb.s r2.size⟩, lg, r1, fun i hi => r2.cell (h.pt i hi) (ne _ (by simp; omega)), lq.1, Nat.lt_of_lt_of_le lq.2 r2.size⟩

/-- What callOf answers. -/
def Of (w : World) (k : Int) (xs : List Int) (e : Ending) (w' : World) : Prop :=
  (¬ CmOk k xs ∧ e = .returned (.tuple #[.nilIface, .bool false]) ∨ CmOk k xs ∧ e = .returned (.tuple #[.iface (tyC k) (.pointer (some ⟨w.heap.size + 1, 0, none⟩)), .bool true]) ∧ w.heap.size + 1 < w'.heap.size ∧ Ints.At w' (w.heap.size + 1) xs) ∧ Below w.heap.size w w'

set_option maxRecDepth 100000 in
set_option maxHeartbeats 8000000 in
theorem iOf (w : World) (k : Int) (g cap : Nat) (xs : List Int) (h20 : xs.length ≤ 1048576) (hg : g < w.heap.size) (hr : Ints.At w g xs) :
    Calls Try.prog 82 #[.agg #[.int .i64 k, .slice (some ⟨g, 0, none⟩) xs.length cap]] w (Of w k xs) := by
  have L0 := hide (Cb.start (k := k) (cap := cap) hr hg 37)
  have LG := hide hg
  clear hr hg
  by_cases h0 : k < 1 ∨ 11 < k
  · have N := hide (show ¬ CmOk k xs from fun h => by have := h.1; rw [no_args h0] at this; omega)
    have H0 := hide h0
    clear h0
    obtain ⟨c0, c1⟩ := (unhide L0).c
    go_enter Try.func82, Try.ntmps82
    go_wp2_with fail
    refine (iNone _ k (unhide H0)).mono ?_
    rintro e u ⟨rfl, rfl⟩
    go_wp2
    go_ret2
    exact ⟨.inl ⟨unhide N, rfl⟩, (unhide L0).b⟩
  obtain ⟨s, f, n, M⟩ := made_of k h0
  have HM := hide M
  have hm := M.me
  have hE := M.en
  clear h0 M
  generalize hT : tyC k = t at *
  have HT := hide hT
  clear hT
  have c := (unhide L0).c
  obtain ⟨c0, c1⟩ := c
  go_enter Try.func82, Try.ntmps82
  go_wp2_with fail
  refine ((unhide HM).nw _).mono ?_
  rintro e u1 ⟨rfl, r1, b1⟩
  have L1 := hide ((unhide L0).step b1)
  have R1 := hide r1
  have s1 : (w.alloc (.cells #[.int .i64 k, .slice (some ⟨g, 0, none⟩) xs.length cap] 37)).heap.size = w.heap.size + 1 := by simp
  rw [s1] at R1
  clear r1 b1 c0 c1 s1 L0
  obtain ⟨c0, c1⟩ := (unhide L1).c
  go_wp2_with fail
  clear hm hE
  refine ((unhide HM).ar _ (w.heap.size + 1)).mono ?_
  rintro e u2 ⟨q, rfl, hp, hq, bb⟩
  have L2 := hide ((unhide L1).step bb)
  have C0 := hide (show Rw u2 w.heap.size s n (w.heap.size + 1) (List.replicate n 0) ∧ Ptr u2 q (w.heap.size + 1) n ∧ w.heap.size + 1 < q ∧ q < u2.heap.size from ⟨((unhide R1).mono (by omega)).below bb (unhide R1).lt.2, hp, Nat.lt_of_lt_of_le (unhide R1).lt.2 hq.1, hq.2⟩)
  clear hp hq bb c0 c1 L1 R1
  obtain ⟨c0, c1⟩ := (unhide L2).c
  by_cases hn : xs.length = n
  case neg =>
    have N := hide (show ¬ CmOk k xs from fun h => by have := h.1; rw [(unhide HM).na] at this; omega)
    have h1 : ((xs.length : Int) != (n : Int)) = true := by simp; omega
    clear hn
    go_wp2
    go_ret2
    exact ⟨.inl ⟨unhide N, rfl⟩, (unhide L2).b⟩
  subst hn
  have h1 : ((xs.length : Int) != (xs.length : Int)) = false := by simp
  have A0 : Hid (Ca w u2 k g cap xs s xs.length q 0) := hide ⟨unhide L2, unhide LG, by rw [Ints.part_zero]; exact (unhide C0).1, (unhide C0).2.1, (unhide C0).2.2⟩
  go_wp2
  clear h1 c0 c1 L2 C0
  go_loopw [28] (fun i wr => ∃ (j : Nat), j ≤ xs.length ∧ i = .int .i64 j ∧ Ca w wr k g cap xs s xs.length q j ∧ Hid (∀ i, i < j → 0 ≤ xs.getD i 0 ∧ xs.getD i 0 ≤ 1000000000000000)) (fun i _ => xs.length - (intOf i).toNat)
  case atStart => exact ⟨0, by omega, rfl, unhide A0, hide (fun i hi => absurd hi (by omega))⟩
  case round =>
    obtain ⟨j, hj, rfl, hS, HG⟩ := hrel
    clear A0
    by_cases t0 : j < xs.length
    · have d := hS.cb.r j t0
      have p0 := hS.pt j t0
      have f0 := hS.rw.free j
      have d1 := hS.rw.at j (by rw [hS.rw.len]; exact t0)
      have S0 := hide hS
      have kx : (j : Int) < xs.length := by omega
      have BAD := hide (show ¬ (0 ≤ xs.getD j 0 ∧ xs.getD j 0 ≤ 1000000000000000) → ¬ CmOk k xs from fun h r => h (r.2 j t0))
      have GOOD := hide (show (0 ≤ xs.getD j 0 ∧ xs.getD j 0 ≤ 1000000000000000) → ∀ i, i < j + 1 → 0 ≤ xs.getD i 0 ∧ xs.getD i 0 ≤ 1000000000000000 from fun h i hi => by
        by_cases e : i = j
        · subst e; exact h
        · exact (unhide HG) i (by omega))
      have NX := hide (hS.next rfl t0)
      clear hS HG
      generalize (Ints.part xs xs.length j).getD j 0 = old at *
      generalize xs.getD j 0 = x at *
      obtain ⟨b, hb⟩ := says_of (0 ≤ x ∧ x ≤ 1000000000000000)
      have HB := hide hb
      clear hb
      go_wp2_with fail
      refine (iFrom x b _ (unhide HB)).mono ?_
      rintro e u ⟨rfl, rfl⟩
      cases b with
      | false =>
        have N := hide ((unhide BAD) (unhide HB).no)
        clear BAD GOOD HB NX
        go_wp2
        go_ret2
        exact ⟨.inl ⟨unhide N, rfl⟩, (unhide S0).cb.b⟩
      | true =>
        have G := hide ((unhide GOOD) (unhide HB).yes)
        clear BAD GOOD HB
        go_wp2
        go_roundw
        case rel => exact ⟨j + 1, by omega, by go_num, unhide NX, G⟩
        case measure => simp [intOf]; omega
    · have Y := hide (show CmOk k xs from ⟨(unhide HM).na.symm, fun i hi => (unhide HG) i (by omega)⟩)
      have e : j = xs.length := by omega
      subst e
      have S0 := hide hS
      clear hS HG hj
      go_wp2
      go_ret2
      refine ⟨.inr ⟨unhide Y, by rw [unhide HT]; rfl, Nat.lt_trans (unhide S0).lq.1 (unhide S0).lq.2, ?_⟩, (unhide S0).cb.b⟩
      have := (unhide S0).rw.at
      rw [Ints.part_all xs _ rfl] at this
      exact this

set_option maxRecDepth 100000 in
theorem iCmdOk (w : World) (k : Int) (g cap : Nat) (xs : List Int) (b : Bool) (h20 : xs.length ≤ 1048576) (hg : g < w.heap.size) (hr : Ints.At w g xs) (hb : Says b (CmOk k xs)) :
    Calls Try.prog 81 #[.agg #[.int .i64 k, .slice (some ⟨g, 0, none⟩) xs.length cap]] w fun e w' => e = .returned (.bool b) ∧ Below w.heap.size w w' := by
  have T := hide hb
  have L0 := hide (Cb.start (k := k) (cap := cap) hr hg 37)
  clear hr hg hb
  obtain ⟨c0, c1⟩ := (unhide L0).c
  go_enter Try.func81, Try.ntmps81
  go_wp2_with fail
  refine (iOf _ k g cap xs h20 (unhide L0).l (unhide L0).r).mono ?_
  rintro e u ⟨hh, bb⟩
  have L1 := hide ((unhide L0).step bb)
  clear bb c0 c1
  rcases hh with ⟨no, rfl⟩ | ⟨yes, rfl, _⟩
  · have F := hide ((unhide T).not no)
    clear no T
    go_wp2
    go_ret
    exact ⟨by rw [unhide F]; rfl, (unhide L1).b⟩
  · have F := hide ((unhide T).of yes)
    clear yes T
    go_wp2
    go_ret
    exact ⟨by rw [unhide F]; rfl, (unhide L1).b⟩

end Go.Proofs.Ytnkbkaeafkdpiaa.ICall10
