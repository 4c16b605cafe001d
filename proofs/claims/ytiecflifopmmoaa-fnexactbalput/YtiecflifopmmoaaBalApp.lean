/- A triple appended to a list of the call's own (Bal), at the operation. -/
import Derived.Test.YtiecflifopmmoaaTriples
import Derived.Maps.AppendAt
namespace Go.Proofs.Ytiecflifopmmoaa.BalApp
open Go.ChangeShapes Go.WideShapes Go.ChangeAt Go.RowKit Bals Triples
set_option linter.unusedVariables false
set_option linter.unusedSimpArgs false

theorem info2 : (Try.prog.info? 54).map (fun i => (i.zero, i.size, i.bytes)) = some (some (.agg #[.int .i64 0, .int .i64 0, .int .i64 0]), 3, 24) := by kernel_rfl

theorem wp_app (u : World) {ops : Array Oper} {rest : List Oper} {o : Oper} {a : Act} {Q : Exit → Act → World → Prop} (hgd : o.guard = none) (s x : Operand)
    (ho : o.op = .call { callee := .builtin .append, args := #[s, x], argTypes := #[25, 25] }) (base g n cap : Nat) (ps : List T3) (vb : Nat) (p q r : Int)
    (hs : a.eval s = .slice (some ⟨g, 0, none⟩) n cap) (hx : a.eval x = .slice (some ⟨vb, 0, none⟩) 1 1) (hown : Own3 54 u base g n cap ps) (hv : Holds3 u vb 0 (p, q, r)) (hn : n ≤ 1048576) (hb : base ≤ u.heap.size)
    (h : ∀ g' c' w', Own3 54 w' base g' (n + 1) c' (ps ++ [(p, q, r)]) → u.grownBy w' (some g) → (g' = g ∨ g' = u.heap.size) → wpList Try.prog ops Q rest (a.put o.dst (.slice (some ⟨g', 0, none⟩) (n + 1) c')) w') : wpList Try.prog ops Q (o :: rest) a u := by
  obtain ⟨i0, hi, hz0, hz1, hz2⟩ := info_parts info2
  have hat : At3 u vb [(p, q, r)] := by
    intro i hi
    obtain rfl : i = 0 := by simpa using hi
    exact hv
  refine wpList_append_own_at u hgd s x 25 ho base 54 i0 (.agg #[.int .i64 0, .int .i64 0, .int .i64 0]) 3 24 Try.underlying25 hi hz0 hz1 hz2 rfl (by decide) _ n _ hs hown ⟨vb, 0, none⟩ 1 1 (flat3 [(p, q, r)]) hx rfl hat.cells (fun u hu => flat3_one u _ hu) (by unfold maxLen; omega) (by omega) hb ?_
  intro v' w' own' gr' nil' loc'
  obtain ⟨g', c', rfl, o'⟩ := own3_of_row (n' := n + 1) (ps := ps ++ [(p, q, r)]) own' rfl (by rw [flat3_append]) (by rw [nil']; simp)
  exact h g' c' w' o' gr' (by simpa [Value.ownBlock] using loc')

/-- A whole list appended to an empty one. -/
theorem wp_copy (u : World) {ops : Array Oper} {rest : List Oper} {o : Oper} {a : Act} {Q : Exit → Act → World → Prop} (hgd : o.guard = none) (s x : Operand)
    (ho : o.op = .call { callee := .builtin .append, args := #[s, x], argTypes := #[25, 25] }) (base g n cap : Nat) (ps : List T3) (vb c : Nat)
    (hs : a.eval s = .slice (some ⟨g, 0, none⟩) 0 cap) (hx : a.eval x = .slice (some ⟨vb, 0, none⟩) n c) (hown : Own3 54 u base g 0 cap []) (hl : ps.length = n) (hv : At3 u vb ps) (hn : n ≤ 1048576) (hb : base ≤ u.heap.size)
    (h : ∀ g' c' w', Own3 54 w' base g' n c' ps → u.grownBy w' (some g) → (g' = g ∨ g' = u.heap.size) → wpList Try.prog ops Q rest (a.put o.dst (.slice (some ⟨g', 0, none⟩) n c')) w') : wpList Try.prog ops Q (o :: rest) a u := by
  obtain ⟨i0, hi, hz0, hz1, hz2⟩ := info_parts info2
  refine wpList_append_own_at u hgd s x 25 ho base 54 i0 (.agg #[.int .i64 0, .int .i64 0, .int .i64 0]) 3 24 Try.underlying25 hi hz0 hz1 hz2 rfl (by decide) _ 0 _ hs hown ⟨vb, 0, none⟩ n c (flat3 ps) hx (by rw [flat3_len, hl]) hv.cells (fun u hu => flat3_one u _ hu) (by unfold maxLen; omega) (by omega) hb ?_
  intro v' w' own' gr' nil' loc'
  obtain ⟨g', c', rfl, o'⟩ := own3_of_row (n' := n) (ps := ps) own' (by omega) rfl (by rw [nil']; simp)
  exact h g' c' w' o' gr' (by simpa [Value.ownBlock] using loc')

/-- Two triples appended at once. -/
theorem wp_app2 (u : World) {ops : Array Oper} {rest : List Oper} {o : Oper} {a : Act} {Q : Exit → Act → World → Prop} (hgd : o.guard = none) (s x : Operand)
    (ho : o.op = .call { callee := .builtin .append, args := #[s, x], argTypes := #[25, 25] }) (base g n cap : Nat) (ps : List T3) (y1 y2 y3 z1 z2 z3 : Int)
    (hs : a.eval s = .slice (some ⟨g, 0, none⟩) n cap) (hx : a.eval x = .slice (some ⟨u.heap.size, 0, none⟩) 2 2) (hown : Own3 54 u base g n cap ps) (hn : n ≤ 1048576) (hb : base ≤ u.heap.size)
    (h : ∀ g' c' w', Own3 54 w' base g' (n + 2) c' (ps ++ [(y1, y2, y3), (z1, z2, z3)]) → (u.alloc (.cells #[.int .i64 y1, .int .i64 y2, .int .i64 y3, .int .i64 z1, .int .i64 z2, .int .i64 z3] 54)).grownBy w' (some g) → (g' = g ∨ u.heap.size ≤ g') → wpList Try.prog ops Q rest (a.put o.dst (.slice (some ⟨g', 0, none⟩) (n + 2) c')) w') :
    wpList Try.prog ops Q (o :: rest) a (u.alloc (.cells #[.int .i64 y1, .int .i64 y2, .int .i64 y3, .int .i64 z1, .int .i64 z2, .int .i64 z3] 54)) := by
  obtain ⟨i0, hi, hz0, hz1, hz2⟩ := info_parts info2
  have hat : At3 (u.alloc (.cells #[.int .i64 y1, .int .i64 y2, .int .i64 y3, .int .i64 z1, .int .i64 z2, .int .i64 z3] 54)) u.heap.size [(y1, y2, y3), (z1, z2, z3)] := by
    intro i hi
    match i, hi with
    | 0, _ => unfold Holds3; simp
    | 1, _ => unfold Holds3; simp
  refine wpList_append_own_at _ hgd s x 25 ho base 54 i0 (.agg #[.int .i64 0, .int .i64 0, .int .i64 0]) 3 24 Try.underlying25 hi hz0 hz1 hz2 rfl (by decide) _ n _ hs (hown.alloc _) ⟨u.heap.size, 0, none⟩ 2 2 (flat3 [(y1, y2, y3), (z1, z2, z3)]) hx rfl hat.cells (fun u hu => flat3_one u _ hu) (by unfold maxLen; omega) (by omega) (by simp; omega) ?_
  intro v' w' own' gr' nil' loc'
  obtain ⟨g', c', rfl, o'⟩ := own3_of_row (n' := n + 2) (ps := ps ++ [(y1, y2, y3), (z1, z2, z3)]) own' rfl (by rw [flat3_append]) (by rw [nil']; simp)
  refine h g' c' w' o' gr' ?_
  have : g' = g ∨ g' = u.heap.size + 1 := by simpa [Value.ownBlock] using loc'
  omega

end Go.Proofs.Ytiecflifopmmoaa.BalApp
