/- Files appended to lists that may be nil, at a step of a region that draws its order. -/
import Derived.Test.YtejbbhjhinkcdaaSRd14
import Derived.Deep.RegionHeld3
import Derived.Maps.AppendAt
namespace Go.Proofs.Ytejbbhjhinkcdaa.App14
open Go.ChangeShapes Go.WideShapes Go.ChangeAt Go.RowKit Fil14 DiskH14 DkH14 SDk14 SOk14 SRd14
set_option linter.unusedVariables false
set_option linter.unusedSimpArgs false
theorem kcell {W W' : World} {G g : Nat} (k : W.grownBy W' (some G)) (o : Nat) (hg : g < W.heap.size) (hG : g ≠ G) : W'.cell? ⟨g, o, none⟩ = W.cell? ⟨g, o, none⟩ :=
  World.cell?_of_block (w := W) (k.block g hg (by simpa using hG))
theorem grow_grow {w w1 w2 : World} {row : Option Nat} (h : w.grownBy w1 row) (k : w1.grownBy w2 row) : w.grownBy w2 row :=
  ⟨k.os.trans h.os, k.tape.trans h.tape, k.output.trans h.output, Nat.le_trans h.size k.size, fun i hi hr => (k.block i (Nat.lt_of_lt_of_le hi h.size) hr).trans (h.block i hi hr)⟩
theorem grow_app {Wk wr u9 : World} {lit : Obj} {row : Option Nat} {G : Nat} (h : Wk.grownBy wr (some G)) (k : (wr.drew.alloc lit).grownBy u9 row) (hr : ∀ j, row = some j → Wk.heap.size ≤ j) : Wk.grownBy u9 (some G) :=
  ⟨k.os.trans h.os, k.tape.trans h.tape, k.output.trans h.output, Nat.le_trans h.size (Nat.le_trans (show wr.heap.size ≤ (wr.drew.alloc lit).heap.size from by show wr.heap.size ≤ (wr.drew.heap.push lit).size; rw [Array.size_push]; exact Nat.le_succ _) k.size), fun i hi hG => by
    have l : i < wr.drew.heap.size := Nat.lt_of_lt_of_le hi h.size
    refine (k.block i (by simp; exact Nat.lt_succ_of_lt l) (fun e => by have := hr i e.symm; omega)).trans ?_
    exact (Below.heap_alloc wr.drew lit i l).trans (h.block i hi hG)⟩
theorem row_kept {W W' : World} {base G : Nat} {e : TypeId} {m : Nat} {v : Value} {n : Nat} {vs : List Value} (h : W.ownsRow base e m v n vs) (k : W.grownBy W' (some G)) (hG : G < base) : W'.ownsRow base e m v n vs :=
  World.ownsRow.kept h k (by
    cases hb : v.ownBlock with
    | none => exact .inl rfl
    | some g => exact .inr (fun e => by have := (World.ownsRow.lt h g hb).1; injection e with e; omega))
/-- A row appended to a list that may be nil, at a step of a region that draws its order. -/
theorem step_app (u : World) {ops : Array Oper} {o : Oper} {a : Act} {K : Act → World → Prop} {Q : Exit → Act → World → Prop} {E : Prop} (hgd : o.guard = none) (s x : Operand) (t e : TypeId)
    (ho : o.op = .call { callee := .builtin .append, args := #[s, x], argTypes := #[t, t] }) (z : Value) (size bytes : Nat) (ht : Try.prog.underlying t = some (.slice e)) (hi : (Try.prog.info? e).map (fun i => (i.zero, i.size, i.bytes)) = some (some z, size, bytes)) (hzs : z.cells.size = size) (hsz : 0 < size) (hby : bytes ≤ 64)
    (base : Nat) (v : Value) (n : Nat) (xs : List Value) (vb : Nat) (news : List Value) (hs : a.eval s = v) (hx : a.eval x = .slice (some ⟨vb, 0, none⟩) 1 1) (hown : u.ownsRow base e size v n xs) (hl : news.length = size) (hc : ∀ j w, news[j]? = some w → u.cell? ⟨vb, j, none⟩ = some w) (h1 : ∀ w ∈ news, w.oneCell' = true) (hn : n ≤ 1048576) (hb : base ≤ u.heap.size)
    (h : ∀ g' c' w', w'.ownsRow base e size (.slice (some ⟨g', 0, none⟩) (n + 1) c') (n + 1) (xs ++ news) → u.grownBy w' v.ownBlock → K (a.put o.dst (.slice (some ⟨g', 0, none⟩) (n + 1) c')) w') : if Region.wanted o (yielded ops a.tmps) = true then Oper.wp Try.prog o a u K Q else E := by
  obtain ⟨i0, hi, hz0, hz1, hz2⟩ := info_parts hi
  have hw : Region.wanted o (yielded ops a.tmps) = true := by simp [Region.wanted, hgd]
  rw [if_pos hw]
  obtain ⟨v', w', hr, own', gr', nil', loc'⟩ := run_append_own_at (P := Try.prog) u base t o.type e i0 z size bytes ht hi hz0 hz1 hz2 hzs hsz v n xs hown ⟨vb, 0, none⟩ 1 1 news (by omega) (fun j w hj => by rw [Addr.add_lit, Nat.zero_add]; exact hc j w hj) h1 (by unfold maxLen; omega) (by have : (n + 1) * bytes ≤ 1048577 * 64 := Nat.mul_le_mul (by omega) hby; omega) hb
  unfold Oper.wp execOp
  simp only [ho, resolve, invoke, builtin, Sem.run_bind, Sem.run_pure, Result.andThen_ok, List.map_toArray, List.map_cons, List.map_nil, hs, hx, hr]
  rcases own'.2 with ⟨e1, _⟩ | ⟨g', c', cur, rfl, _⟩
  · rw [e1] at nil'; simp at nil'
  · exact h g' c' w' own' gr'
theorem row_base {W : World} {base base' : Nat} {e : TypeId} {m : Nat} {v : Value} {n : Nat} {vs : List Value} (h : W.ownsRow base e m v n vs) (hb : base' ≤ base) : W.ownsRow base' e m v n vs :=
  ⟨h.1, by
    rcases h.2 with h | ⟨g, c, cur, h1, h2, h3⟩
    · exact .inl h
    · exact .inr ⟨g, c, cur, h1, Nat.le_trans hb h2, h3⟩⟩
theorem litm (u : World) (news : List Value) (e : TypeId) (arr : Array Value) (h : arr = news.toArray) : ∀ j w, news[j]? = some w → (u.alloc (.cells arr e)).cell? ⟨u.heap.size, j, none⟩ = some w := by
  subst h
  intro j w hj
  simpa using hj
theorem flat_1 (ps : List TF) (p : TF) : flatF (ps ++ [p]) = flatF ps ++ [.int .i64 p.1, .string p.2.1, .string p.2.2] := by simp [flatF]
