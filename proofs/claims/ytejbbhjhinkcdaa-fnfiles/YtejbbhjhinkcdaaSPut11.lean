/- Bytes: appending, and the specification's PutNum. -/
import Derived.Test.YtejbbhjhinkcdaaSBytes
import Derived.Test.YtejbbhjhinkcdaaByteH
import Derived.Maps.AppendAt
namespace Go.Proofs.Ytejbbhjhinkcdaa.SPut11
open Go.ChangeShapes Go.WideShapes Go.ChangeAt Go.RowKit SBytes
open ByteH (Own At)
set_option linter.unusedVariables false
set_option linter.unusedSimpArgs false
theorem own_of_row {w : World} {base n n' : Nat} {v : Value} {vs : List Value} {xs : List Int} (h : w.ownsRow base 5 1 v n vs) (hn : n = n') (e : vs = xs.map (Value.int .u8)) (hv : ¬ v = .slice none 0 0) :
    ∃ g c, v = .slice (some ⟨g, 0, none⟩) n' c ∧ Own w base g n' c xs := by
  subst hn e
  have h' := h
  rcases h.2 with ⟨h1, _⟩ | ⟨g, c, cur, rfl, _⟩
  · exact absurd h1 hv
  · exact ⟨g, c, rfl, h'⟩
theorem own_alloc {w : World} {base g n cap : Nat} {xs : List Int} (h : Own w base g n cap xs) (o : Obj) : Own (w.alloc o) base g n cap xs := World.ownsRow.alloc h o
theorem lit0 (w : World) (base : Nat) {g : Nat} (hb : base ≤ w.heap.size) (hg : g = w.heap.size) : Own (w.alloc (.cells #[] 5)) base g 0 0 [] := by
  subst hg
  exact World.ownsRow_lit w #[] 0 hb (by decide) rfl
/-- Bytes that lie from a place on. -/
def AtO (w : World) (g o : Nat) (xs : List Int) : Prop := ∀ i, i < xs.length → w.cell? ⟨g, o + i, none⟩ = some (.int .u8 (xs.getD i 0))
/-- Bytes appended to bytes of the call's own. -/
theorem wp_catB (u : World) {ops : Array Oper} {rest : List Oper} {o : Oper} {a : Act} {Q : Exit → Act → World → Prop} (hgd : o.guard = none) (s x : Operand)
    (ho : o.op = .call { callee := .builtin .append, args := #[s, x], argTypes := #[22, 22] }) (base g n cap m : Nat) (xs ys : List Int) (vb off c : Nat)
    (hs : a.eval s = .slice (some ⟨g, 0, none⟩) n cap) (hx : a.eval x = .slice (some ⟨vb, off, none⟩) m c) (hown : Own u base g n cap xs) (hl : ys.length = m) (hv : AtO u vb off ys) (hn : n + m ≤ 9223372036854) (hb : base ≤ u.heap.size)
    (h : ∀ g' c' w', Own w' base g' (n + m) c' (xs ++ ys) → u.grownBy w' (some g) → (g' = g ∨ g' = u.heap.size) → wpList Try.prog ops Q rest (a.put o.dst (.slice (some ⟨g', 0, none⟩) (n + m) c')) w') : wpList Try.prog ops Q (o :: rest) a u := by
  obtain ⟨i0, hi, hz0, hz1, hz2⟩ := info_parts ByteH.info8
  refine wpList_append_own_at u hgd s x 22 ho base 5 i0 (.int .u8 0) 1 1 Try.underlying22 hi hz0 hz1 hz2 rfl (by decide) _ n _ hs hown ⟨vb, off, none⟩ m c (ys.map (Value.int .u8)) hx (by simp [hl]) (fun j v hj => by
    have hj' : j < ys.length := by
      have := (List.getElem?_eq_some_iff.1 hj).1
      simpa using this
    have := hv j hj'
    rw [Addr.add_lit, this]
    rw [← hj]
    simp [List.getD, hj']) (by intro u hu; obtain ⟨y, _, rfl⟩ := List.mem_map.1 hu; simp [Value.oneCell']) (by unfold maxLen; omega) (by omega) hb ?_
  intro v' w' own' gr' nil' loc'
  obtain ⟨g', c', rfl, o'⟩ := own_of_row (n' := n + m) (xs := xs ++ ys) own' rfl (by simp) (by rw [nil']; simp)
  exact h g' c' w' o' gr' (by simpa [Value.ownBlock] using loc')
theorem lit_one (w : World) (y : Int) : AtO (w.alloc (.cells #[.int .u8 y] 5)) w.heap.size 0 [y] := by
  intro i hi
  have : i = 0 := by simpa using hi
  subst this
  simp
end Go.Proofs.Ytejbbhjhinkcdaa.SPut11
