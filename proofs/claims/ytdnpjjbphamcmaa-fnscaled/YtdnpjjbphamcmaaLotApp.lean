/- An element appended to a list of the call's own (Lot), at the operation. -/
import Derived.Test.YtdnpjjbphamcmaaTup5
import Derived.Maps.AppendAt
namespace Go.Proofs.Ytdnpjjbphamcmaa.LotApp
open Go.ChangeShapes Go.WideShapes Go.ChangeAt Go.RowKit Tup5
set_option linter.unusedVariables false
set_option linter.unusedSimpArgs false

theorem info2 : (Try.prog.info? 40).map (fun i => (i.zero, i.size, i.bytes)) = some (some (.agg #[.int .i64 0, .int .i64 0, .int .i64 0, .int .i64 0, .int .i64 0]), 5, 40) := by kernel_rfl

theorem wp_app (u : World) {ops : Array Oper} {rest : List Oper} {o : Oper} {a : Act} {Q : Exit → Act → World → Prop} (hgd : o.guard = none) (s x : Operand)
    (ho : o.op = .call { callee := .builtin .append, args := #[s, x], argTypes := #[24, 24] }) (base g n cap : Nat) (ps : List T5) (vb : Nat) (x0 x1 x2 x3 x4 : Int)
    (hs : a.eval s = .slice (some ⟨g, 0, none⟩) n cap) (hx : a.eval x = .slice (some ⟨vb, 0, none⟩) 1 1) (hown : Own5 40 u base g n cap ps) (hv : Holds5 u vb 0 (x0, x1, x2, x3, x4)) (hn : n ≤ 1048576) (hb : base ≤ u.heap.size)
    (h : ∀ g' c' w', Own5 40 w' base g' (n + 1) c' (ps ++ [(x0, x1, x2, x3, x4)]) → u.grownBy w' (some g) → (g' = g ∨ g' = u.heap.size) → wpList Try.prog ops Q rest (a.put o.dst (.slice (some ⟨g', 0, none⟩) (n + 1) c')) w') : wpList Try.prog ops Q (o :: rest) a u := by
  obtain ⟨i0, hi, hz0, hz1, hz2⟩ := info_parts info2
  have hat : At5 u vb [(x0, x1, x2, x3, x4)] := by
    intro i hi
    obtain rfl : i = 0 := by simpa using hi
    exact hv
  refine wpList_append_own_at u hgd s x 24 ho base 40 i0 (.agg #[.int .i64 0, .int .i64 0, .int .i64 0, .int .i64 0, .int .i64 0]) 5 40 Try.underlying24 hi hz0 hz1 hz2 rfl (by decide) _ n _ hs hown ⟨vb, 0, none⟩ 1 1 (flat5 [(x0, x1, x2, x3, x4)]) hx rfl hat.cells (fun u hu => flat5_one u _ hu) (by unfold maxLen; omega) (by omega) hb ?_
  intro v' w' own' gr' nil' loc'
  obtain ⟨g', c', rfl, o'⟩ := own5_of_row (n' := n + 1) (ps := ps ++ [(x0, x1, x2, x3, x4)]) own' rfl (by rw [flat5_append]) (by rw [nil']; simp)
  exact h g' c' w' o' gr' (by simpa [Value.ownBlock] using loc')

/-- A whole list appended to an empty one. -/
theorem wp_copy (u : World) {ops : Array Oper} {rest : List Oper} {o : Oper} {a : Act} {Q : Exit → Act → World → Prop} (hgd : o.guard = none) (s x : Operand)
    (ho : o.op = .call { callee := .builtin .append, args := #[s, x], argTypes := #[24, 24] }) (base g n cap : Nat) (ps : List T5) (vb c : Nat)
    (hs : a.eval s = .slice (some ⟨g, 0, none⟩) 0 cap) (hx : a.eval x = .slice (some ⟨vb, 0, none⟩) n c) (hown : Own5 40 u base g 0 cap []) (hl : ps.length = n) (hv : At5 u vb ps) (hn : n ≤ 1048576) (hb : base ≤ u.heap.size)
    (h : ∀ g' c' w', Own5 40 w' base g' n c' ps → u.grownBy w' (some g) → (g' = g ∨ g' = u.heap.size) → wpList Try.prog ops Q rest (a.put o.dst (.slice (some ⟨g', 0, none⟩) n c')) w') : wpList Try.prog ops Q (o :: rest) a u := by
  obtain ⟨i0, hi, hz0, hz1, hz2⟩ := info_parts info2
  refine wpList_append_own_at u hgd s x 24 ho base 40 i0 (.agg #[.int .i64 0, .int .i64 0, .int .i64 0, .int .i64 0, .int .i64 0]) 5 40 Try.underlying24 hi hz0 hz1 hz2 rfl (by decide) _ 0 _ hs hown ⟨vb, 0, none⟩ n c (flat5 ps) hx (by rw [flat5_len, hl]) hv.cells (fun u hu => flat5_one u _ hu) (by unfold maxLen; omega) (by omega) hb ?_
  intro v' w' own' gr' nil' loc'
  obtain ⟨g', c', rfl, o'⟩ := own5_of_row (n' := n) (ps := ps) own' (by omega) rfl (by rw [nil']; simp)
  exact h g' c' w' o' gr' (by simpa [Value.ownBlock] using loc')

end Go.Proofs.Ytdnpjjbphamcmaa.LotApp
