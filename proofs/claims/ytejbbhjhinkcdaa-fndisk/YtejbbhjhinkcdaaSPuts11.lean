/- Bytes: the specification's PutNums, GetNums, Seal. -/
import Derived.Test.YtejbbhjhinkcdaaSPut11
import Derived.Test.YtejbbhjhinkcdaaInts
namespace Go.Proofs.Ytejbbhjhinkcdaa.SPuts11
open Go.ChangeShapes Go.WideShapes Go.ChangeAt Go.RowKit SBytes SPut11
open ByteH (Own At)
set_option linter.unusedVariables false
set_option linter.unusedSimpArgs false

/-- What PutNums answers. -/
def numsB (xs : List Int) : List Int := if ∀ i, i < xs.length → 0 ≤ xs.getD i 0 then xs.flatMap numB else []

theorem flat_next {xs : List Int} {k : Nat} (h : k < xs.length) : (xs.take (k + 1)).flatMap numB = (xs.take k).flatMap numB ++ numB (xs.getD k 0) := by
  rw [List.take_succ_eq_append_getElem h, List.flatMap_append]
  simp [List.getD, h]

theorem flat_len (xs : List Int) (h : ∀ i, i < xs.length → xs.getD i 0 ≤ 9223372036854775807) (k : Nat) (hk : k ≤ xs.length) : ((xs.take k).flatMap numB).length ≤ 9 * k := by
  induction k with
  | zero => simp
  | succ k ih =>
    rw [flat_next (by omega), List.length_append]
    have a := ih (by omega)
    have b := numB_nine (h k (by omega))
    omega

theorem numB_pos {x : Int} (h : 0 ≤ x) : numB x = numF x.toNat := if_neg (by omega)

theorem own_of_rowI {w : World} {base n n' : Nat} {v : Value} {vs : List Value} {xs : List Int} (h : w.ownsRow base 3 1 v n vs) (hn : n = n') (e : vs = xs.map (Value.int .i64)) (hv : ¬ v = .slice none 0 0) :
    ∃ g c, v = .slice (some ⟨g, 0, none⟩) n' c ∧ Ints.Own w base g n' c xs := by
  subst hn e
  have h' := h
  rcases h.2 with ⟨h1, _⟩ | ⟨g, c, cur, rfl, _⟩
  · exact absurd h1 hv
  · exact ⟨g, c, rfl, h'⟩

theorem own_allocI {w : World} {base g n cap : Nat} {xs : List Int} (h : Ints.Own w base g n cap xs) (o : Obj) : Ints.Own (w.alloc o) base g n cap xs := World.ownsRow.alloc h o

theorem lit0I (w : World) (base : Nat) {g : Nat} (hb : base ≤ w.heap.size) (hg : g = w.heap.size) : Ints.Own (w.alloc (.cells #[] 3)) base g 0 0 [] := by
  subst hg
  exact World.ownsRow_lit w #[] 0 hb (by decide) rfl

/-- A number appended to a list of numbers. -/
theorem wp_appI (u : World) {ops : Array Oper} {rest : List Oper} {o : Oper} {a : Act} {Q : Exit → Act → World → Prop} (hgd : o.guard = none) (s x : Operand)
    (ho : o.op = .call { callee := .builtin .append, args := #[s, x], argTypes := #[64, 64] }) (base g n cap : Nat) (xs : List Int) (vb : Nat) (y : Int)
    (hs : a.eval s = .slice (some ⟨g, 0, none⟩) n cap) (hx : a.eval x = .slice (some ⟨vb, 0, none⟩) 1 1) (hown : Ints.Own u base g n cap xs) (hv : u.cell? ⟨vb, 0, none⟩ = some (.int .i64 y)) (hn : n ≤ 1048576) (hb : base ≤ u.heap.size)
    (h : ∀ g' c' w', Ints.Own w' base g' (n + 1) c' (xs ++ [y]) → u.grownBy w' (some g) → (g' = g ∨ g' = u.heap.size) → wpList Try.prog ops Q rest (a.put o.dst (.slice (some ⟨g', 0, none⟩) (n + 1) c')) w') : wpList Try.prog ops Q (o :: rest) a u := by
  obtain ⟨i0, hi, hz0, hz1, hz2⟩ := info_parts Ints.info3
  refine wpList_append_own_at u hgd s x 64 ho base 3 i0 (.int .i64 0) 1 8 Try.underlying64 hi hz0 hz1 hz2 rfl (by decide) _ n _ hs hown ⟨vb, 0, none⟩ 1 1 [.int .i64 y] hx rfl (fun j v hj => by
    cases j with
    | zero =>
      have e : v = .int .i64 y := by simpa using hj.symm
      rw [e]
      simpa [Addr.add] using hv
    | succ j => simp at hj) (by simp [Value.oneCell']) (by unfold maxLen; omega) (by omega) hb ?_
  intro v' w' own' gr' nil' loc'
  obtain ⟨g', c', rfl, o'⟩ := own_of_rowI (n' := n + 1) (xs := xs ++ [y]) own' rfl (by simp) (by rw [nil']; simp)
  exact h g' c' w' o' gr' (by simpa [Value.ownBlock] using loc')

/-- Numbers read one behind the other: those read, the place then, and whether all were there. -/
def gets (xs : List Int) : Nat → Int → List Int → List Int × Int × Bool
  | 0, p, l => (l, p, true)
  | m + 1, p, l => if (getN xs p).2.2 = true then gets xs m (getN xs p).2.1 (l ++ [(getN xs p).1]) else ([], 0, false)

/-- What GetNums answers. -/
def getsN (xs : List Int) (p many : Int) : List Int × Int × Bool :=
  if (0 ≤ many ∧ many ≤ 2000) ∧ 0 ≤ p ∧ p ≤ xs.length then gets xs many.toNat p [] else ([], 0, false)

end Go.Proofs.Ytejbbhjhinkcdaa.SPuts11
