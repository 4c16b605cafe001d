/- What a disk that came in holds, off the reading of an argument. -/
import Derived.Test.YtejbbhjhinkcdaaFil14
import Derived.Deep.Slices
import Derived.Deep.Strs
import Derived.ChangeSlices
namespace Go.Proofs.Ytejbbhjhinkcdaa.OpensF14
open Go.ChangeShapes Go.WideShapes Go.ChangeAt Go.RowKit Fil14
set_option linter.unusedVariables false
set_option linter.unusedSimpArgs false

/-- Texts that an int can tell the length of. -/
def FitF (ps : List TF) : Prop := ∀ p ∈ ps, p.2.1.size ≤ 9223372036854775807 ∧ p.2.2.size ≤ 9223372036854775807

theorem open_files {H : Type} {enc : TypeId × Value → H} {P : Program} {w : World} {base : Nat} {spare : Nat → Bool} {held : Bool} {t e i s : TypeId} {f0 f1 f2 : Field} {fuel : Nat} {a : Option Addr} {len cap : Nat} {x : DataW H × List MemPlace}
    (ht : P.underlying t = some (.slice e)) (he : P.underlying e = some (.struct #[f0, f1, f2]))
    (hc : (P.cellsOf e == 3 && P.cellsOf i == 1 && f0.type == i && f1.type == s && f2.type == s && P.cellsOf s == 1 && f0.offset == 0 && f1.offset == 1 && f2.offset == 2) = true) (hi : P.underlying i = some (.int .i64)) (hs : P.underlying s = some .string)
    (h : DataW.trod enc P w base spare held fuel t (Value.slice a len cap).cells.toList = some x) : ∃ ps : List TF, ps.length = len ∧ len ≤ 9223372036854775807 ∧ ReadsF w a ps ∧ FitF ps := by
  simp at hc
  obtain ⟨⟨⟨⟨⟨⟨⟨⟨ce, ci⟩, e0⟩, e1⟩, e2⟩, cs⟩, o0⟩, o1⟩, o2⟩ := hc
  rcases Deep.open_slice ht h with ⟨hcs, _⟩ | ⟨b, l, c, m, n, D, Pl, hcs, _, hlc, hm, hmm, _, hx⟩
  · simp [Value.cells] at hcs
    obtain ⟨rfl, rfl, rfl⟩ := hcs
    exact ⟨[], rfl, by omega, .inl rfl, fun p hp => by simp at hp⟩
  · simp [Value.cells] at hcs
    obtain ⟨rfl, rfl, rfl⟩ := hcs
    have hlm : len ≤ m := by rw [hmm]; split <;> omega
    have each : ∀ j, j < len → ∃ p : TF, w.cell? (b.add (j * 3)) = some (.int .i64 p.1) ∧ w.cell? (b.add (j * 3 + 1)) = some (.string p.2.1) ∧ w.cell? (b.add (j * 3 + 2)) = some (.string p.2.2) ∧ (p.2.1.size ≤ 9223372036854775807 ∧ p.2.2.size ≤ 9223372036854775807) := by
      intro j hj
      obtain ⟨cs', h1, h2⟩ := hx j (by omega)
      rw [ce] at h1
      obtain ⟨_, hlen, hcell⟩ := World.cells?_some h1
      obtain ⟨y0, y1, y2, k, _, _, g0, g1, g2⟩ := Deep.trod_struct3 he h2
      match cs', hlen with
      | [v0, v1, v2], _ =>
        rw [e0] at g0
        rw [e1] at g1
        rw [e2] at g2
        simp [o0, o1, o2, ci, cs] at g0 g1 g2
        obtain ⟨x0, q0, _⟩ := DataW.trod_int hi g0
        obtain ⟨x1, q1, _, m1⟩ := DataW.trod_string hs g1
        obtain ⟨x2, q2, _, m2⟩ := DataW.trod_string hs g2
        simp at q0 q1 q2
        subst q0 q1 q2
        have d0 := hcell 0 (by omega)
        have d1 := hcell 1 (by omega)
        have d2 := hcell 2 (by omega)
        rw [Deep.add_add] at d0 d1 d2
        exact ⟨(x0, x1, x2), by simpa using d0, by simpa using d1, by simpa using d2, by unfold maxLen at m1; exact m1, by unfold maxLen at m2; exact m2⟩
    obtain ⟨q, hq⟩ := Deep.choose_lt each
    refine ⟨(List.range len).map q, by simp, by unfold maxLen at hm; omega, ?_, fun p hp => by
      obtain ⟨j, hj, rfl⟩ := List.mem_map.1 hp
      exact (hq j (by simpa using hj)).2.2.2⟩
    by_cases z : len = 0
    · exact .inl (by simp [z])
    · obtain ⟨blk, off, spot⟩ := b
      have c0 := (hq 0 (by omega)).1
      have hspot : spot = none := by simpa [Addr.add] using World.cell?_spot c0
      subst hspot
      have c0' : w.cell? ⟨blk, off, none⟩ = some (.int .i64 (q 0).1) := by simpa [Addr.add] using c0
      refine .inr ⟨blk, off, rfl, World.block_lt_of_cell? w _ c0', fun j hj => ?_⟩
      have hj' : j < len := by simpa using hj
      obtain ⟨p0, p1, p2, _⟩ := hq j hj'
      rw [Addr.add_lit] at p0 p1 p2
      have hg : elF ((List.range len).map q) j = q j := by simp [List.getD, hj']
      rw [hg]
      exact ⟨p0, by rw [Nat.add_assoc]; exact p1, by rw [Nat.add_assoc]; exact p2⟩

theorem struct_cells2 {H : Type} {enc : TypeId × Value → H} {P : Program} {w : World} {base : Nat} {spare : Nat → Bool} {held : Bool} {e : TypeId} {f0 f1 : Field} {fuel : Nat} {cs : List Value} {x : DataW H × List MemPlace}
    (he : P.underlying e = some (.struct #[f0, f1])) (hc : (P.cellsOf e == 2 && P.cellsOf f0.type == 1 && P.cellsOf f1.type == 1 && f0.offset == 0 && f1.offset == 1) = true)
    (h : DataW.trod enc P w base spare held fuel e cs = some x) : ∃ v0 v1 k x0 x1, cs = [v0, v1] ∧ DataW.trod enc P w base spare held k f0.type [v0] = some x0 ∧ DataW.trod enc P w base spare held k f1.type [v1] = some x1 := by
  simp at hc
  obtain ⟨⟨⟨⟨ce, k0⟩, k1⟩, o0⟩, o1⟩ := hc
  obtain ⟨xs, k, _, _, hl, hlen, hf⟩ := DataW.trod_struct he h
  rw [ce] at hl
  match xs, hlen, cs, hl with
  | [y0, y1], _, [v0, v1], _ =>
    have g0 := hf 0 f0 rfl
    have g1 := hf 1 f1 rfl
    simp [o0, k0] at g0
    simp [o1, k1] at g1
    exact ⟨v0, v1, k, _, _, rfl, g0, g1⟩

end Go.Proofs.Ytejbbhjhinkcdaa.OpensF14
