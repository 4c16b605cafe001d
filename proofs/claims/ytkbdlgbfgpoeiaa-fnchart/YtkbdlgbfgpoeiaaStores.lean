/- What a copy of pairs stores into a row of the call's own: the library's run of 'copy' at elements of two cells, and the row behind it. -/
import Derived.Test.YtkbdlgbfgpoeiaaPairs
import Derived.Test.YtkbdlgbfgpoeiaaChart
import Derived.Laws.IdiomCopy
import Derived.Lib.Overlaps
namespace Go.Proofs.Ytkbdlgbfgpoeiaa.Stores
open Go.ChangeShapes Go.WideShapes Go.ChangeAt Go.RowKit Pairs Chart
set_option linter.unusedVariables false
set_option linter.unusedSimpArgs false

/-- A list with the values vs from place o on. -/
def setAll : List Value → Nat → List Value → List Value
  | xs, _, [] => xs
  | xs, o, v :: r => setAll (xs.set o v) (o + 1) r

theorem setAll_mid : ∀ (V A B C : List Value), B.length = V.length → setAll (A ++ B ++ C) A.length V = A ++ V ++ C
  | [], A, B, C, h => by
    have : B = [] := List.eq_nil_of_length_eq_zero (by simpa using h)
    subst this
    rfl
  | v :: V, A, B, C, h => by
    cases B with
    | nil => simp at h
    | cons b B =>
      have e : ((A ++ b :: B ++ C).set A.length v) = (A ++ [v]) ++ B ++ C := by
        rw [List.append_assoc, List.set_append_right _ _ (Nat.le_refl _)]
        simp
      have ih := setAll_mid V (A ++ [v]) B C (by simpa using h)
      rw [List.length_append, List.length_singleton] at ih
      show setAll ((A ++ b :: B ++ C).set A.length v) (A.length + 1) V = _
      rw [e, ih]
      simp

theorem row_set {base : Nat} {e : TypeId} {size g n cap : Nat} : ∀ (vs : List Value) (o : Nat) (w : World) (xs : List Value), w.ownsRow base e size (.slice (some ⟨g, 0, none⟩) n cap) n xs →
    (w.setCells g o vs).ownsRow base e size (.slice (some ⟨g, 0, none⟩) n cap) n (setAll xs o vs) ∧ w.grownBy (w.setCells g o vs) (some g)
  | [], o, w, xs, h => ⟨h, World.grownBy.refl _ _⟩
  | v :: r, o, w, xs, h => by
    obtain ⟨h1, g1⟩ := World.ownsRow.stored h o v
    obtain ⟨h2, g2⟩ := row_set r (o + 1) _ _ h1
    exact ⟨h2, grown_trans g1 g2⟩

/-- 'copy' at elements of two cells. -/
theorem run_copy2 {P : Program} (w : World) (dT sT ty elem : TypeId) (b o dLen dCap : Nat) (a : Addr) (sLen sCap : Nat) (ps : List (Int × Int)) (hu : P.underlying dT = some (.slice elem)) (hs : (P.info? elem).map (·.size) = some 2)
    (hn : ps.length = Nat.min sLen dLen) (hsrc : ∀ j v, (flat ps)[j]? = some v → w.cell? (a.add j) = some v) (hc : ∀ j, j < ps.length * 2 → (w.cell? ⟨b, o + j, none⟩).isSome = true) (hf : ∀ j, w.frozen? ⟨b, j, none⟩ = false) :
    (Builtin.copy_ #[dT, sT] ty #[.slice (some ⟨b, o, none⟩) dLen dCap, .slice (some a) sLen sCap]).run P w = .ok (goInt ps.length) (w.setCells b o (flat ps)) := by
  have hl := run_loadCells_list (P := P) w a (flat ps) hsrc
  rw [flat_len] at hl
  have hst := run_storeCells_cells (P := P) b o (flat ps) 0 w (by simpa [flat_len] using hc) (by simpa using fun j _ => hf (o + j)) (fun v hv => flat_one v ps hv)
  cases hq : P.info? elem with
  | none => simp [hq] at hs
  | some i =>
    have hi : i.size = 2 := by simpa [hq] using hs
    simp [Builtin.copy_, run_underlying hu, Builtin.lenOf, Builtin.firstCells, sizeOf, typeInfo, hq, hi, ← hn, hl, hst]

theorem row_some {w : World} {base : Nat} {e : TypeId} {g n cap : Nat} {xs : List Value} (h : w.ownsRow base e 2 (.slice (some ⟨g, 0, none⟩) n cap) n xs) (j : Nat) (hj : j < n * 2) : (w.cell? ⟨g, j, none⟩).isSome = true := by
  rw [World.ownsRow.cellAt h j hj, List.getElem?_eq_getElem (by rw [h.1]; exact hj)]
  rfl

/-- A row with room, cut one longer. -/
theorem row_more {w : World} {base : Nat} {e : TypeId} {g n cap : Nat} {ps : List (Int × Int)} (h : Own e w base g n cap ps) (hr : n + 1 ≤ cap) :
    ∃ U : List Value, U.length = 2 ∧ w.ownsRow base e 2 (.slice (some ⟨g, 0, none⟩) (n + 1) cap) (n + 1) (flat ps ++ U) := by
  rcases h.2 with ⟨h1, _⟩ | ⟨g', c, cur, h1, hb, hg, hnc, hcm, hcs, htake⟩
  · simp at h1
  · obtain ⟨rfl, rfl⟩ : g = g' ∧ cap = c := by simpa using h1
    refine ⟨(cur.toList.drop (n * 2)).take 2, by simp; omega, ?_, .inr ⟨g, cap, cur, rfl, hb, hg, hr, hcm, hcs, ?_⟩⟩
    · rw [List.length_append, flat_len, h.len]
      simp
      omega
    · rw [← htake, show (n + 1) * 2 = n * 2 + 2 by omega, List.take_add]

theorem own_cap {w : World} {base : Nat} {e : TypeId} {g n cap : Nat} {ps : List (Int × Int)} (h : Own e w base g n cap ps) : n ≤ cap ∧ cap ≤ maxLen := by
  rcases h.2 with ⟨h1, _⟩ | ⟨g', c, cur, h1, hb, hg, hnc, hcm, hcs, htake⟩
  · simp at h1
  · obtain ⟨rfl, rfl⟩ : g = g' ∧ cap = c := by simpa using h1
    exact ⟨hnc, hcm⟩

/-- The shape of a row of the call's own. -/
theorem own_shape {w : World} {base : Nat} {e : TypeId} {g n cap : Nat} {xs : List Value} (h : w.ownsRow base e 2 (.slice (some ⟨g, 0, none⟩) n cap) n xs) : w.shape? g = some (e, cap * 2) ∧ ∀ j, w.frozen? ⟨g, j, none⟩ = false := by
  refine ⟨?_, World.ownsRow.frozenAt h⟩
  rcases h.2 with ⟨h1, _⟩ | ⟨g', c, cur, h1, hb, hg, hnc, hcm, hcs, htake⟩
  · simp at h1
  · obtain ⟨rfl, rfl⟩ : g = g' ∧ cap = c := by simpa using h1
    simp [World.shape?, hg, hcs]

/-- Where the pair goes in: the cells behind the two stores. -/
theorem flat_ins (ps : List (Int × Int)) (c : Nat) (x y : Int) : flat (ins ps c (x, y)) = flat (ps.take c) ++ [.int .i64 x, .int .i64 y] ++ flat (ps.drop c) := by
  unfold ins
  rw [flat_append, flat_cons]
  simp

/-- First the tail one further, then the pair into its place. -/
theorem shift_then_put (ps : List (Int × Int)) (c : Nat) (x y : Int) (U : List Value) (hU : U.length = 2) (hc : c ≤ ps.length) :
    setAll (setAll (flat ps ++ U) ((c + 1) * 2) (flat (ps.drop c))) (c * 2) [.int .i64 x, .int .i64 y] = flat (ins ps c (x, y)) := by
  have hX : flat ps = flat (ps.take c) ++ flat (ps.drop c) := by rw [← flat_append, List.take_append_drop]
  have l1 : (flat (ps.take c)).length = c * 2 := by rw [flat_len]; simp; omega
  have l2 : (flat (ps.drop c)).length = (ps.length - c) * 2 := by rw [flat_len]; simp
  obtain ⟨M, R, hM, hR, e⟩ : ∃ M R, M.length = 2 ∧ R.length = (flat (ps.drop c)).length ∧ flat (ps.drop c) ++ U = M ++ R := by
    refine ⟨(flat (ps.drop c) ++ U).take 2, (flat (ps.drop c) ++ U).drop 2, ?_, ?_, (List.take_append_drop _ _).symm⟩
    · simp; omega
    · simp; omega
  have k1 := setAll_mid (flat (ps.drop c)) (flat (ps.take c) ++ M) R [] hR
  rw [List.length_append, l1, hM, List.append_nil, List.append_nil] at k1
  have k2 := setAll_mid [.int .i64 x, .int .i64 y] (flat (ps.take c)) M (flat (ps.drop c)) hM
  rw [l1] at k2
  rw [hX, List.append_assoc, e, ← List.append_assoc, show (c + 1) * 2 = c * 2 + 2 by omega, k1, k2, flat_ins]

/-- First the pair, then the tail, into a new row. -/
theorem put_then_tail (ps : List (Int × Int)) (c : Nat) (x y : Int) (Z : List Value) (hZ : Z.length = (ps.length + 1 - c) * 2) (hc : c ≤ ps.length) :
    setAll (setAll (flat (ps.take c) ++ Z) (c * 2) [.int .i64 x, .int .i64 y]) ((c + 1) * 2) (flat (ps.drop c)) = flat (ins ps c (x, y)) := by
  have l1 : (flat (ps.take c)).length = c * 2 := by rw [flat_len]; simp; omega
  have l2 : (flat (ps.drop c)).length = (ps.length - c) * 2 := by rw [flat_len]; simp
  obtain ⟨M, R, hM, hR, rfl⟩ : ∃ M R, M.length = 2 ∧ R.length = (flat (ps.drop c)).length ∧ Z = M ++ R := by
    refine ⟨Z.take 2, Z.drop 2, ?_, ?_, (List.take_append_drop _ _).symm⟩
    · simp; omega
    · simp; omega
  have k1 := setAll_mid [.int .i64 x, .int .i64 y] (flat (ps.take c)) M R hM
  rw [l1] at k1
  have k2 := setAll_mid (flat (ps.drop c)) (flat (ps.take c) ++ [.int .i64 x, .int .i64 y]) R [] hR
  rw [List.length_append, l1, List.append_nil, List.append_nil] at k2
  rw [← List.append_assoc, k1, show (c + 1) * 2 = c * 2 + [Value.int .i64 x, Value.int .i64 y].length by simp; omega, k2, flat_ins]

end Go.Proofs.Ytkbdlgbfgpoeiaa.Stores
