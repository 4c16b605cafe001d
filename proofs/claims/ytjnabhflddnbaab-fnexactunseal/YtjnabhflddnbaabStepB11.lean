/- Bytes appended to bytes of the call's own, at a step of a region that draws its order. -/
import Derived.Test.YtjnabhflddnbaabSPut11
import Derived.Deep.RegionHeld3
namespace Go.Proofs.Ytjnabhflddnbaab.StepB11
open Go.ChangeShapes Go.WideShapes Go.ChangeAt Go.RowKit SBytes SPut11
open ByteH (Own At)
set_option linter.unusedVariables false
set_option linter.unusedSimpArgs false

/-- Bytes appended to bytes of the call's own, at a step of a region that draws its order. -/
theorem step_catB (u : World) {ops : Array Oper} {o : Oper} {a : Act} {K : Act → World → Prop} {Q : Exit → Act → World → Prop} {E : Prop} (hgd : o.guard = none) (s x : Operand)
    (ho : o.op = .call { callee := .builtin .append, args := #[s, x], argTypes := #[22, 22] }) (base g n cap m : Nat) (xs ys : List Int) (vb off c : Nat)
    (hs : a.eval s = .slice (some ⟨g, 0, none⟩) n cap) (hx : a.eval x = .slice (some ⟨vb, off, none⟩) m c) (hown : Own u base g n cap xs) (hl : ys.length = m) (hv : AtO u vb off ys) (hn : n + m ≤ 9223372036854) (hb : base ≤ u.heap.size)
    (h : ∀ g' c' w', Own w' base g' (n + m) c' (xs ++ ys) → u.grownBy w' (some g) → (g' = g ∨ g' = u.heap.size) → K (a.put o.dst (.slice (some ⟨g', 0, none⟩) (n + m) c')) w') : if Region.wanted o (yielded ops a.tmps) = true then Oper.wp Try.prog o a u K Q else E := by
  obtain ⟨i0, hi, hz0, hz1, hz2⟩ := info_parts ByteH.info8
  have hw : Region.wanted o (yielded ops a.tmps) = true := by simp [Region.wanted, hgd]
  rw [if_pos hw]
  obtain ⟨v', w', hr, own', gr', nil', loc'⟩ := run_append_own_at (P := Try.prog) u base 22 o.type 5 i0 (.int .u8 0) 1 1 Try.underlying22 hi hz0 hz1 hz2 rfl (by decide) (.slice (some ⟨g, 0, none⟩) n cap) n (xs.map (Value.int .u8)) hown ⟨vb, off, none⟩ m c (ys.map (Value.int .u8)) (by simp [hl]) (fun j v hj => by
    have hj' : j < ys.length := by
      have := (List.getElem?_eq_some_iff.1 hj).1
      simpa using this
    have := hv j hj'
    rw [Addr.add_lit, this]
    rw [← hj]
    simp [List.getD, hj']) (by intro u hu; obtain ⟨y, _, rfl⟩ := List.mem_map.1 hu; simp [Value.oneCell']) (by unfold maxLen; omega) (by omega) hb
  unfold Oper.wp execOp
  simp only [ho, resolve, invoke, builtin, Sem.run_bind, Sem.run_pure, Result.andThen_ok, List.map_toArray, List.map_cons, List.map_nil, hs, hx, hr]
  obtain ⟨g', c', rfl, o'⟩ := own_of_row (n' := n + m) (xs := xs ++ ys) own' rfl (by simp) (by rw [nil']; simp)
  exact h g' c' w' o' gr' (by simpa [Value.ownBlock] using loc')

end Go.Proofs.Ytjnabhflddnbaab.StepB11
