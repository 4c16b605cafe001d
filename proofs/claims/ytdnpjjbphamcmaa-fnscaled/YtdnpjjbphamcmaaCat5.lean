/- A list of lots appended to a list of the call's own. -/
import Derived.Test.YtdnpjjbphamcmaaLotApp
import Derived.Test.YtdnpjjbphamcmaaICut
import Derived.Deep.AppendLies
import Derived.Deep.RegionHeld3
namespace Go.Proofs.Ytdnpjjbphamcmaa.Cat5
open Go.ChangeShapes Go.WideShapes Go.ChangeAt Go.RowKit Tup5 Lots Takes ICut
open LotApp (info2)
set_option linter.unusedVariables false
set_option linter.unusedSimpArgs false

theorem AtO.cells {w : World} {g o : Nat} {ps : List T5} (h : AtO w g o ps) : ∀ (j : Nat) (u : Value), (flat5 ps)[j]? = some u → w.cell? ((⟨g, o, none⟩ : Addr).add j) = some u := by
  intro j u hj
  have hl : j < ps.length * 5 := by
    have := (List.getElem?_eq_some_iff.1 hj).1
    rw [flat5_len] at this
    exact this
  rw [Addr.add_lit]
  obtain ⟨c0, c1, c2, c3, c4⟩ := h (j / 5) (by omega)
  obtain ⟨f0, f1, f2, f3, f4⟩ := flat5_get ps (j / 5) (by omega)
  rcases (show j % 5 = 0 ∨ j % 5 = 1 ∨ j % 5 = 2 ∨ j % 5 = 3 ∨ j % 5 = 4 by omega) with e | e | e | e | e
  · rw [show o + j / 5 * 5 = o + j by omega] at c0
    rw [show j / 5 * 5 = j by omega] at f0
    rw [c0, ← hj, f0]
  · rw [show o + j / 5 * 5 + 1 = o + j by omega] at c1
    rw [show j / 5 * 5 + 1 = j by omega] at f1
    rw [c1, ← hj, f1]
  · rw [show o + j / 5 * 5 + 2 = o + j by omega] at c2
    rw [show j / 5 * 5 + 2 = j by omega] at f2
    rw [c2, ← hj, f2]
  · rw [show o + j / 5 * 5 + 3 = o + j by omega] at c3
    rw [show j / 5 * 5 + 3 = j by omega] at f3
    rw [c3, ← hj, f3]
  · rw [show o + j / 5 * 5 + 4 = o + j by omega] at c4
    rw [show j / 5 * 5 + 4 = j by omega] at f4
    rw [c4, ← hj, f4]

/-- A whole list appended to another one. -/
theorem wp_cat (u : World) {ops : Array Oper} {rest : List Oper} {o : Oper} {a : Act} {Q : Exit → Act → World → Prop} (hgd : o.guard = none) (s x : Operand)
    (ho : o.op = .call { callee := .builtin .append, args := #[s, x], argTypes := #[24, 24] }) (base g n cap m : Nat) (ps qs : List T5) (vb off c : Nat)
    (hs : a.eval s = .slice (some ⟨g, 0, none⟩) n cap) (hx : a.eval x = .slice (some ⟨vb, off, none⟩) m c) (hown : Own5 40 u base g n cap ps) (hl : qs.length = m) (hv : AtO u vb off qs) (hn : n + m ≤ 1048576) (hb : base ≤ u.heap.size)
    (h : ∀ g' c' w', Own5 40 w' base g' (n + m) c' (ps ++ qs) → u.grownBy w' (some g) → (g' = g ∨ g' = u.heap.size) → wpList Try.prog ops Q rest (a.put o.dst (.slice (some ⟨g', 0, none⟩) (n + m) c')) w') : wpList Try.prog ops Q (o :: rest) a u := by
  obtain ⟨i0, hi, hz0, hz1, hz2⟩ := info_parts info2
  refine wpList_append_own_at u hgd s x 24 ho base 40 i0 (.agg #[.int .i64 0, .int .i64 0, .int .i64 0, .int .i64 0, .int .i64 0]) 5 40 Try.underlying24 hi hz0 hz1 hz2 rfl (by decide) _ n _ hs hown ⟨vb, off, none⟩ m c (flat5 qs) hx (by rw [flat5_len, hl]) (AtO.cells hv) (fun u hu => flat5_one u _ hu) (by unfold maxLen; omega) (by omega) hb ?_
  intro v' w' own' gr' nil' loc'
  obtain ⟨g', c', rfl, o'⟩ := own5_of_row (n' := n + m) (ps := ps ++ qs) own' rfl (by rw [flat5_append]) (by rw [nil']; simp)
  exact h g' c' w' o' gr' (by simpa [Value.ownBlock] using loc')

/-- A copy of a list. -/
theorem wp_copyO (u : World) {ops : Array Oper} {rest : List Oper} {o : Oper} {a : Act} {Q : Exit → Act → World → Prop} (hgd : o.guard = none) (s x : Operand)
    (ho : o.op = .call { callee := .builtin .append, args := #[s, x], argTypes := #[24, 24] }) (base g cap m : Nat) (qs : List T5) (vb off c : Nat)
    (hs : a.eval s = .slice (some ⟨g, 0, none⟩) 0 cap) (hx : a.eval x = .slice (some ⟨vb, off, none⟩) m c) (hown : Own5 40 u base g 0 cap []) (hl : qs.length = m) (hv : AtO u vb off qs) (hn : m ≤ 1048576) (hb : base ≤ u.heap.size)
    (h : ∀ g' c' w', Own5 40 w' base g' m c' qs → u.grownBy w' (some g) → (g' = g ∨ g' = u.heap.size) → wpList Try.prog ops Q rest (a.put o.dst (.slice (some ⟨g', 0, none⟩) m c')) w') : wpList Try.prog ops Q (o :: rest) a u := by
  refine wp_cat u hgd s x ho base g 0 cap m [] qs vb off c hs hx hown hl hv (by omega) hb ?_
  intro g' c' w' o' gr' loc'
  rw [Nat.zero_add] at o' ⊢
  exact h g' c' w' o' gr' loc'

/-- A whole list appended to another one, at a step of a region that draws its order. -/
theorem step_cat (u : World) {ops : Array Oper} {o : Oper} {a : Act} {K : Act → World → Prop} {Q : Exit → Act → World → Prop} {E : Prop} (hgd : o.guard = none) (s x : Operand)
    (ho : o.op = .call { callee := .builtin .append, args := #[s, x], argTypes := #[24, 24] }) (base g n cap m : Nat) (ps qs : List T5) (vb off c : Nat)
    (hs : a.eval s = .slice (some ⟨g, 0, none⟩) n cap) (hx : a.eval x = .slice (some ⟨vb, off, none⟩) m c) (hown : Own5 40 u base g n cap ps) (hl : qs.length = m) (hv : AtO u vb off qs) (hn : n + m ≤ 1048576) (hb : base ≤ u.heap.size)
    (h : ∀ g' c' w', Own5 40 w' base g' (n + m) c' (ps ++ qs) → u.grownBy w' (some g) → (g' = g ∨ g' = u.heap.size) → K (a.put o.dst (.slice (some ⟨g', 0, none⟩) (n + m) c')) w') : if Region.wanted o (yielded ops a.tmps) = true then Oper.wp Try.prog o a u K Q else E := by
  obtain ⟨i0, hi, hz0, hz1, hz2⟩ := info_parts info2
  have hw : Region.wanted o (yielded ops a.tmps) = true := by simp [Region.wanted, hgd]
  rw [if_pos hw]
  obtain ⟨v', w', hr, own', gr', nil', loc'⟩ := run_append_own_at (P := Try.prog) u base 24 o.type 40 i0 (.agg #[.int .i64 0, .int .i64 0, .int .i64 0, .int .i64 0, .int .i64 0]) 5 40 Try.underlying24 hi hz0 hz1 hz2 rfl (by decide) (.slice (some ⟨g, 0, none⟩) n cap) n (flat5 ps) hown ⟨vb, off, none⟩ m c (flat5 qs) (by rw [flat5_len, hl]) (AtO.cells hv) (fun u hu => flat5_one u _ hu) (by unfold maxLen; omega) (by omega) hb
  unfold Oper.wp execOp
  simp only [ho, resolve, invoke, builtin, Sem.run_bind, Sem.run_pure, Result.andThen_ok, List.map_toArray, List.map_cons, List.map_nil, hs, hx, hr]
  obtain ⟨g', c', rfl, o'⟩ := own5_of_row (n' := n + m) (ps := ps ++ qs) own' rfl (by rw [flat5_append]) (by rw [nil']; simp)
  exact h g' c' w' o' gr' (by simpa [Value.ownBlock] using loc')

end Go.Proofs.Ytdnpjjbphamcmaa.Cat5
