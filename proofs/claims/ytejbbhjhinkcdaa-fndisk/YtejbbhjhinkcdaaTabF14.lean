/- The program's table of files: a map by name, as what it tells. -/
import Derived.Test.YtejbbhjhinkcdaaSCom14
import Derived.Maps.OwnSet
namespace Go.Proofs.Ytejbbhjhinkcdaa.TabF14
open Go.ChangeShapes Go.WideShapes Go.ChangeAt Go.RowKit Fil14 OpensF14 DiskH14 DkH14 SDk14 SOk14
open Go.Maps (Keyed)
set_option linter.unusedVariables false
set_option linter.unusedSimpArgs false

theorem law : Keyed Try.prog 3 := Maps.int_keyed Try.underlying3
/-- A number of 64 bits. -/
def Wf (n : Int) : Prop := (Lit.int .i64 n).wf = true
theorem wf_ok {n : Int} (h : okN n = true) : Wf n := by
  unfold okN at h
  exact WalkArith.wf_i64 (by simp at h; omega)
theorem wf_low {n : Int} (h : 0 ≤ n ∧ n ≤ 21) : Wf n := wf_ok (by unfold okN; simpa using h)

/-- No file. -/
abbrev z0 : TF := (0, ByteArray.empty, ByteArray.empty)
/-- A file as a value. -/
abbrev fV (p : TF) : Value := .agg #[.int .i64 p.1, .string p.2.1, .string p.2.2]
theorem fV_inj {p q : TF} (h : fV p = fV q) : p = q := by
  obtain ⟨a, b, c⟩ := p
  obtain ⟨d, e, f⟩ := q
  simp [fV] at h
  simp [h]
theorem zero (w : World) : (zeroValue 32).run Try.prog w = .ok (fV z0) w := by kernel_rfl

open Classical in
/-- How a file reads in a table. -/
noncomputable def rF (v : Value) : Option (DataW TF × List MemPlace) := if h : ∃ p, v = fV p then some (.held h.choose, []) else none
theorem rF_mk (p : TF) : rF (fV p) = some (.held p, []) := by
  unfold rF
  have h : ∃ q, fV p = fV q := ⟨p, rfl⟩
  rw [dif_pos h, ← fV_inj h.choose_spec]
theorem rF_inv {v : Value} {d : DataW TF} {ps : List MemPlace} (h : rF v = some (d, ps)) : ∃ p, v = fV p ∧ d = .held p := by
  unfold rF at h
  split at h
  · rename_i q
    have e : DataW.held q.choose = d := by simpa using congrArg (fun o => o.map (·.1)) h
    exact ⟨q.choose, q.choose_spec, e.symm⟩
  · cases h

theorem key_of {n : Int} (h : Wf n) : keyOf Try.prog 3 (.int .i64 n) = some (.int .i64 n) := Maps.keyOf_int_mk Try.underlying3 h

/-- A table with one entry turned. -/
def upd (f : Int → Option TF) (k : Int) (p : Option TF) : Int → Option TF := fun j => if j = k then p else f j

/-- Block B is a table of at most n entries that tells f. -/
def Tf (w : World) (B n : Nat) (f : Int → Option TF) : Prop := ∃ D : DataW TF, w.ownsMap Try.prog 3 rF B n D ∧ ∀ k, Wf k → D.atKey (.int .i64 k) (.held z0) = .held ((f k).getD z0) ∧ Maps.has D (.int .i64 k) = (f k).isSome

theorem tf_made (w : World) : Tf (w.alloc (.map #[] 0)) w.heap.size 0 (fun _ => none) :=
  ⟨.map [], World.ownsMap_made _ _ _ _, fun k h => ⟨rfl, rfl⟩⟩
theorem Tf.lt {w : World} {B n : Nat} {f : Int → Option TF} (h : Tf w B n f) : B < w.heap.size := by
  obtain ⟨D, h1, _⟩ := h
  exact h1.lt
theorem Tf.kept {w w' : World} {B n : Nat} {f : Int → Option TF} {row : Option Nat} (h : Tf w B n f) (hg : w.grownBy w' row) (hne : some B ≠ row) : Tf w' B n f := by
  obtain ⟨D, h1, h2⟩ := h
  exact ⟨D, h1.kept hg hne, h2⟩
theorem below_grown {w w' : World} (h : Below w.heap.size w w') : w.grownBy w' none := ⟨h.os, h.tape, h.output, h.size, fun k hk _ => h.block k hk⟩
theorem Tf.below {w w' : World} {B n : Nat} {f : Int → Option TF} (h : Tf w B n f) (k : Below w.heap.size w w') : Tf w' B n f := h.kept (below_grown k) (by simp)
theorem Tf.drew {w : World} {B n : Nat} {f : Int → Option TF} (h : Tf w B n f) : Tf w.drew B n f := h.below (Below.refl _ _).drew
theorem isMap_of {w : World} {B n : Nat} {D : DataW TF} (h : w.ownsMap Try.prog 3 rF B n D) : Maps.IsMap D := by
  obtain ⟨es, clock, _, _, _, rfl⟩ := h
  exact ⟨_, rfl⟩
theorem key_ne {j k : Int} (h : j ≠ k) : Lit.int .i64 j ≠ Lit.int .i64 k := fun e => h (by simpa using e)

/-- A look-up that asks whether there is one. -/
theorem wp_have (w : World) {ops : Array Oper} {rest : List Oper} {o : Oper} {s : Act} {Q : Exit → Act → World → Prop}
    (hg : o.guard = none) (m x : Operand) (hop : o.op = Op.lookup 50 m x true) (B n : Nat) (f : Int → Option TF) (hm : s.eval m = .map (some B)) (hown : Tf w B n f) (k : Int) (hx : s.eval x = .int .i64 k) (hw : Wf k)
    (p : TF) (b : Bool) (hp : (f k).getD z0 = p) (hb : (f k).isSome = b)
    (hK : wpList Try.prog ops Q rest (s.put o.dst (.tuple #[.agg #[.int .i64 p.1, .string p.2.1, .string p.2.2], .bool b])) w) : wpList Try.prog ops Q (o :: rest) s w := by
  obtain ⟨D, h1, h2⟩ := hown
  subst hp hb
  refine wpList_lookup_own_ok w hg m x 50 hop 3 32 law Try.underlying50 rF (zero w) (.held z0) [] (rF_mk z0) B n D hm h1 _ (.int .i64 k) hx (key_of hw) ?_
  intro v ps hv
  obtain ⟨p, rfl, e⟩ := rF_inv hv
  rw [(h2 k hw).1] at e
  have e' : (f k).getD z0 = p := by simpa using e
  rw [(h2 k hw).2, ← e']
  exact hK

/-- A look-up. -/
theorem wp_look (w : World) {ops : Array Oper} {rest : List Oper} {o : Oper} {s : Act} {Q : Exit → Act → World → Prop}
    (hg : o.guard = none) (m x : Operand) (hop : o.op = Op.lookup 50 m x false) (B n : Nat) (f : Int → Option TF) (hm : s.eval m = .map (some B)) (hown : Tf w B n f) (k : Int) (hx : s.eval x = .int .i64 k) (hw : Wf k)
    (p : TF) (hp : (f k).getD z0 = p)
    (hK : wpList Try.prog ops Q rest (s.put o.dst (.agg #[.int .i64 p.1, .string p.2.1, .string p.2.2])) w) : wpList Try.prog ops Q (o :: rest) s w := by
  obtain ⟨D, h1, h2⟩ := hown
  subst hp
  refine wpList_plain hg fun K' hK' => ?_
  obtain ⟨v, ps, hrun, hv⟩ := h1.lookup law Try.underlying50 (zero w) (rF_mk z0) (key_of hw)
  obtain ⟨p, rfl, e⟩ := rF_inv hv
  rw [(h2 k hw).1] at e
  have e' : (f k).getD z0 = p := by simpa using e
  rw [← e'] at hrun
  unfold Oper.wp
  simp [execOp, hop, hm, hx, hrun, Result.andThen]
  exact hK' _ _ hK

/-- A store. -/
theorem wp_put (w : World) {ops : Array Oper} {rest : List Oper} {o : Oper} {s : Act} {Q : Exit → Act → World → Prop}
    (hg : o.guard = none) (m x y : Operand) (hop : o.op = Op.mapUpdate 50 m x y) (B n : Nat) (f : Int → Option TF) (hm : s.eval m = .map (some B)) (hown : Tf w B n f) (hn : n ≤ 1048576) (k : Int) (p : TF) (hx : s.eval x = .int .i64 k) (hy : s.eval y = .agg #[.int .i64 p.1, .string p.2.1, .string p.2.2]) (hw : Wf k)
    (hK : ∀ w', Tf w' B (n + 1) (upd f k (some p)) → w.grownBy w' (some B) → wpList Try.prog ops Q rest (s.put o.dst undef) w') : wpList Try.prog ops Q (o :: rest) s w := by
  obtain ⟨D, h1, h2⟩ := hown
  refine wpList_mapUpdate_own w hg m x y 50 hop 3 32 law Try.underlying50 rF B n D hm h1 (by unfold maxLen; omega) _ _ (.int .i64 k) hx hy (key_of hw) (.held p) [] (rF_mk p) ?_
  intro w' h3 h4
  refine hK w' ⟨_, h3, fun j hj => ?_⟩ h4
  unfold upd
  by_cases e : j = k
  · subst e
    rw [if_pos rfl, Maps.atKey_put_same (isMap_of h1) (law.key (key_of hw)), Maps.has_put_same (isMap_of h1) (law.key (key_of hw))]
    exact ⟨rfl, rfl⟩
  · rw [if_neg e, Maps.atKey_put_other (key_ne e), Maps.has_put_other (key_ne e)]
    exact h2 j hj

/-- A name struck out. -/
theorem wp_del (w : World) {ops : Array Oper} {rest : List Oper} {o : Oper} {s : Act} {Q : Exit → Act → World → Prop}
    (hg : o.guard = none) (m x : Operand) (hop : o.op = Op.call { callee := Callee.builtin Builtin.delete, args := #[m, x], argTypes := #[50, 3] }) (B n : Nat) (f : Int → Option TF) (hm : s.eval m = .map (some B)) (hown : Tf w B n f) (k : Int) (hx : s.eval x = .int .i64 k) (hw : Wf k)
    (hK : ∀ w', Tf w' B n (upd f k none) → w.grownBy w' (some B) → wpList Try.prog ops Q rest (s.put o.dst (.tuple #[])) w') : wpList Try.prog ops Q (o :: rest) s w := by
  obtain ⟨D, h1, h2⟩ := hown
  refine wpList_delete_own w hg m x 50 3 hop 32 law Try.underlying50 rF B n D hm h1 _ (.int .i64 k) hx (key_of hw) ?_
  intro w' h3 h4
  refine hK w' ⟨_, h3, fun j hj => ?_⟩ h4.grown
  unfold upd
  by_cases e : j = k
  · subst e
    rw [if_pos rfl, Maps.atKey_del_same, Maps.has_del_same]
    exact ⟨rfl, rfl⟩
  · rw [if_neg e, Maps.atKey_del_other (key_ne e), Maps.has_del_other (key_ne e)]
    exact h2 j hj

/-- The table of the first k files. -/
def tabN (ps : List TF) : Nat → Int → Option TF
  | 0 => fun _ => none
  | k + 1 => upd (tabN ps k) (elF ps k).1 (some (elF ps k))
/-- The table of files. -/
def tabOf (ps : List TF) : Int → Option TF := tabN ps ps.length
/-- The files of the names below k. -/
def rowN (f : Int → Option TF) : Nat → List TF
  | 0 => []
  | k + 1 => rowN f k ++ (f k).toList
/-- All files. -/
def rowF (f : Int → Option TF) : List TF := rowN f 22
theorem rowN_len (f : Int → Option TF) : ∀ k, (rowN f k).length ≤ k
  | 0 => by simp [rowN]
  | k + 1 => by
    have := rowN_len f k
    rw [rowN, List.length_append]
    cases f k <;> simp <;> omega

end Go.Proofs.Ytejbbhjhinkcdaa.TabF14
