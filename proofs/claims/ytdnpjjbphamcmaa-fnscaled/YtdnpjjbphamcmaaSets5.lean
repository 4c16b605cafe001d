/- Many cells stored into a row of lots, a row cut shorter, and the library's clear of lots. -/
import Derived.Test.YtdnpjjbphamcmaaTakes
import Derived.Laws.IdiomCopy
import Derived.Lib.SliceRun
namespace Go.Proofs.Ytdnpjjbphamcmaa.Sets5
open Go.ChangeShapes Go.WideShapes Go.ChangeAt Go.RowKit Tup5 Lots Takes
set_option linter.unusedVariables false
set_option linter.unusedSimpArgs false

/-- A list with the values vs from place o on. -/
def setAll : List Value → Nat → List Value → List Value
  | xs, _, [] => xs
  | xs, o, v :: r => setAll (xs.set o v) (o + 1) r

theorem setAll_mid : ∀ (V A B C : List Value), B.length = V.length → setAll (A ++ B ++ C) A.length V = A ++ V ++ C
  | [], A, B, C, h => by
    have : B = [] := List.eq_nil_of_length_eq_zero (by simpa using h)
    subst this
    rfl
  | v :: V, A, B, C, h => by
    cases B with
    | nil => simp at h
    | cons b B =>
      have e : ((A ++ b :: B ++ C).set A.length v) = (A ++ [v]) ++ B ++ C := by
        rw [List.append_assoc, List.set_append_right _ _ (Nat.le_refl _)]
        simp
      have ih := setAll_mid V (A ++ [v]) B C (by simpa using h)
      rw [List.length_append, List.length_singleton] at ih
      show setAll ((A ++ b :: B ++ C).set A.length v) (A.length + 1) V = _
      rw [e, ih]
      simp

theorem row_set {base : Nat} {e : TypeId} {size g n cap : Nat} : ∀ (vs : List Value) (o : Nat) (w : World) (xs : List Value), w.ownsRow base e size (.slice (some ⟨g, 0, none⟩) n cap) n xs →
    (w.setCells g o vs).ownsRow base e size (.slice (some ⟨g, 0, none⟩) n cap) n (setAll xs o vs) ∧ w.grownBy (w.setCells g o vs) (some g)
  | [], o, w, xs, h => ⟨h, World.grownBy.refl _ _⟩
  | v :: r, o, w, xs, h => by
    obtain ⟨h1, g1⟩ := World.ownsRow.stored h o v
    obtain ⟨h2, g2⟩ := row_set r (o + 1) _ _ h1
    exact ⟨h2, grown_trans g1 g2⟩

/-- A row cut shorter. -/
theorem row_less {e : TypeId} {w : World} {base g n cap i : Nat} {xs : List Value} {qs : List T5} (h : w.ownsRow base e 5 (.slice (some ⟨g, 0, none⟩) n cap) n xs) (hi : i ≤ n) (hq : xs.take (i * 5) = flat5 qs) (hl : qs.length = i) : Own5 e w base g i cap qs := by
  refine ⟨by rw [flat5_len, hl], ?_⟩
  rcases h.2 with ⟨h1, _⟩ | ⟨g', c, cur, h1, hb, hg, hnc, hcm, hcs, htake⟩
  · simp at h1
  · obtain ⟨rfl, rfl⟩ : g = g' ∧ cap = c := by simpa using h1
    refine .inr ⟨g, cap, cur, rfl, hb, hg, by omega, hcm, hcs, ?_⟩
    rw [← hq, ← htake, List.take_take]
    congr 1
    omega

theorem zeros5 (n : Nat) : (Builtin.zeroCells (Value.agg #[.int .i64 0, .int .i64 0, .int .i64 0, .int .i64 0, .int .i64 0]).cells n).toList = flat5 (List.replicate n (0, 0, 0, 0, 0)) := by
  apply List.ext_getElem?
  intro j
  have hs : (Builtin.zeroCells (Value.agg #[.int .i64 0, .int .i64 0, .int .i64 0, .int .i64 0, .int .i64 0]).cells n).size = n * 5 := by simp [Builtin.zeroCells, Value.cells]
  by_cases hj : j < n * 5
  · have hz : (Builtin.zeroCells (Value.agg #[.int .i64 0, .int .i64 0, .int .i64 0, .int .i64 0, .int .i64 0]).cells n).toList[j]? = some (.int .i64 0) := by
      rw [Array.getElem?_toList, Array.getElem?_eq_getElem (by rw [hs]; exact hj)]
      simp only [Builtin.zeroCells, Value.cells]
      have e : j % 5 = 0 ∨ j % 5 = 1 ∨ j % 5 = 2 ∨ j % 5 = 3 ∨ j % 5 = 4 := by omega
      rcases e with e | e | e | e | e <;> simp [e]
    rw [hz]
    obtain ⟨f0, f1, f2, f3, f4⟩ := flat5_get (List.replicate n (0, 0, 0, 0, 0)) (j / 5) (by simp; omega)
    have el : el5 (List.replicate n (0, 0, 0, 0, 0)) (j / 5) = (0, 0, 0, 0, 0) := by
      have hq : j / 5 < n := by omega
      simp [el5, List.getD, hq]
    rw [el] at f0 f1 f2 f3 f4
    rcases (show j % 5 = 0 ∨ j % 5 = 1 ∨ j % 5 = 2 ∨ j % 5 = 3 ∨ j % 5 = 4 by omega) with e | e | e | e | e
    · rw [show j / 5 * 5 = j by omega] at f0; exact f0.symm
    · rw [show j / 5 * 5 + 1 = j by omega] at f1; exact f1.symm
    · rw [show j / 5 * 5 + 2 = j by omega] at f2; exact f2.symm
    · rw [show j / 5 * 5 + 3 = j by omega] at f3; exact f3.symm
    · rw [show j / 5 * 5 + 4 = j by omega] at f4; exact f4.symm
  · rw [List.getElem?_eq_none (by rw [Array.length_toList, hs]; omega), List.getElem?_eq_none (by rw [flat5_len]; simp; omega)]

/-- 'clear' at elements of five cells. -/
theorem run_clear5 {P : Program} (w : World) (t e ty : TypeId) (ht : P.underlying t = some (.slice e)) (hv : ∀ w, (zeroValue e).run P w = .ok (.agg #[.int .i64 0, .int .i64 0, .int .i64 0, .int .i64 0, .int .i64 0]) w) (b o n c : Nat) (hn : 0 < n)
    (hc : ∀ j, j < n * 5 → (w.cell? ⟨b, o + j, none⟩).isSome = true) (hf : ∀ j, w.frozen? ⟨b, j, none⟩ = false) :
    (Builtin.clear_ #[t] ty #[.slice (some ⟨b, o, none⟩) n c]).run P w = .ok (.tuple #[]) (w.setCells b o (flat5 (List.replicate n (0, 0, 0, 0, 0)))) := by
  have hst := run_storeCells_cells (P := P) b o (flat5 (List.replicate n (0, 0, 0, 0, 0))) 0 w (by intro j hj; rw [flat5_len, List.length_replicate] at hj; simpa using hc j hj) (by intro j _; simpa using hf (o + j)) (fun v hv => flat5_one v _ hv)
  simp only [Nat.add_zero] at hst
  have hz := zeros5 n
  obtain ⟨m, rfl⟩ : ∃ m, n = m + 1 := ⟨n - 1, by omega⟩
  simp [Builtin.clear_, run_underlying ht, hv, hz, hst]

/-- A lot that is stored whole into a place of a list. -/
theorem mod5 (l : List T5) (i : Nat) (x0 x1 x2 x3 x4 : Int) : (((((l.modify i (fun p => (x0, p.2.1, p.2.2.1, p.2.2.2.1, p.2.2.2.2))).modify i (fun p => (p.1, x1, p.2.2.1, p.2.2.2.1, p.2.2.2.2))).modify i (fun p => (p.1, p.2.1, x2, p.2.2.2.1, p.2.2.2.2))).modify i (fun p => (p.1, p.2.1, p.2.2.1, x3, p.2.2.2.2))).modify i (fun p => (p.1, p.2.1, p.2.2.1, p.2.2.2.1, x4))) = l.modify i (fun _ => (x0, x1, x2, x3, x4)) := by
  apply el_ext
  · simp
  · intro j hj
    have hj : j < l.length := by simpa using hj
    rw [el_modify _ _ _ _ (by simpa using hj), el_modify _ _ _ _ (by simpa using hj), el_modify _ _ _ _ (by simpa using hj), el_modify _ _ _ _ (by simpa using hj), el_modify _ _ _ _ hj, el_modify _ _ _ _ hj]
    by_cases e : i = j
    · simp [e]
    · simp [e]

theorem store_at {e : TypeId} {w : World} {base g n cap i : Nat} {ps : List T5} (h : Own5 e w base g n cap ps) (x0 x1 x2 x3 x4 : Int) :
    Own5 e (((((w.setCell ⟨g, i * 5, none⟩ (.int .i64 x0)).setCell ⟨g, i * 5 + 1, none⟩ (.int .i64 x1)).setCell ⟨g, i * 5 + 2, none⟩ (.int .i64 x2)).setCell ⟨g, i * 5 + 3, none⟩ (.int .i64 x3)).setCell ⟨g, i * 5 + 4, none⟩ (.int .i64 x4)) base g n cap (ps.modify i (fun _ => (x0, x1, x2, x3, x4))) ∧
      w.grownBy (((((w.setCell ⟨g, i * 5, none⟩ (.int .i64 x0)).setCell ⟨g, i * 5 + 1, none⟩ (.int .i64 x1)).setCell ⟨g, i * 5 + 2, none⟩ (.int .i64 x2)).setCell ⟨g, i * 5 + 3, none⟩ (.int .i64 x3)).setCell ⟨g, i * 5 + 4, none⟩ (.int .i64 x4)) (some g) := by
  have s0 := h.set0 i x0
  have s1 := s0.1.set1 i x1
  have s2 := s1.1.set2 i x2
  have s3 := s2.1.set3 i x3
  have s4 := s3.1.set4 i x4
  refine ⟨?_, grown_trans (grown_trans (grown_trans (grown_trans s0.2 s1.2) s2.2) s3.2) s4.2⟩
  rw [← mod5]
  exact s4.1

theorem drop_mod (l : List T5) (i j : Nat) (f : T5 → T5) (h : i < j) : (l.modify i f).drop j = l.drop j := by
  apply el_ext
  · simp
  · intro t ht
    simp at ht
    have ne : ¬ i = j + t := by omega
    simp [el5, List.getD, ne]

theorem fz_next {ps : List T5} {k : Nat} (h : k < ps.length) : fz (ps.take (k + 1)) = fz (ps.take k) ++ (if (el5 ps k).2.2.2.1 = 0 then [] else [el5 ps k]) := by
  rw [take_next h, fz_append]
  congr 1
  unfold fz
  generalize el5 ps k = p
  by_cases e : p.2.2.2.1 = 0
  · rw [if_pos e]; simp [e]
  · rw [if_neg e]; simp [e]

end Go.Proofs.Ytdnpjjbphamcmaa.Sets5
