/- Lists of files: the laws' own copies and equality. Conditions: lists of at most 2^20 files. -/
import Derived.Test.YtejbbhjhinkcdaaDiskH14
import Derived.Deep.RegionHeld3
namespace Go.Proofs.Ytejbbhjhinkcdaa.HelpF14
open Go.ChangeShapes Go.WideShapes Go.ChangeAt Go.RowKit Fil14
set_option linter.unusedVariables false
set_option linter.unusedSimpArgs false

theorem info2 : (Try.prog.info? 32).map (fun i => (i.zero, i.size, i.bytes)) = some (some (.agg #[.int .i64 0, .string ByteArray.empty, .string ByteArray.empty]), 3, 40) := by kernel_rfl

theorem made_triples (n : Nat) : (madeCells (Value.agg #[.int .i64 0, .string ByteArray.empty, .string ByteArray.empty]).cells (n * 3)).toList = flatF (List.replicate n (0, ByteArray.empty, ByteArray.empty)) := by
  apply List.ext_getElem?
  intro j
  by_cases hj : j < n * 3
  · have hs : (Value.agg #[Value.int .i64 0, Value.string ByteArray.empty, Value.string ByteArray.empty]).cells = #[Value.int .i64 0, Value.string ByteArray.empty, Value.string ByteArray.empty] := rfl
    rw [hs]
    obtain ⟨f0, f1, f2⟩ := flatF_get (List.replicate n (0, ByteArray.empty, ByteArray.empty)) (j / 3) (by simp; omega)
    have hg : (List.replicate n ((0 : Int), ByteArray.empty, ByteArray.empty)).getD (j / 3) (0, ByteArray.empty, ByteArray.empty) = (0, ByteArray.empty, ByteArray.empty) := by simp [List.getD, show j / 3 < n by omega]
    unfold elF at f0 f1 f2
    rw [hg] at f0 f1 f2
    rcases (show j % 3 = 0 ∨ j % 3 = 1 ∨ j % 3 = 2 by omega) with e | e | e
    · rw [show j / 3 * 3 = j by omega] at f0
      rw [f0]
      simp [madeCells, hj, e]
    · rw [show j / 3 * 3 + 1 = j by omega] at f1
      rw [f1]
      simp [madeCells, hj, e]
    · rw [show j / 3 * 3 + 2 = j by omega] at f2
      rw [f2]
      simp [madeCells, hj, e]
  · rw [List.getElem?_eq_none (by simp [madeCells]; omega), List.getElem?_eq_none (by rw [flatF_len]; simp; omega)]

/-- The triples so far, and zeros behind. -/
def part (ps : List TF) (n k : Nat) : List TF := ps.take k ++ List.replicate (n - k) (0, ByteArray.empty, ByteArray.empty)

theorem part_zero (ps : List TF) (n : Nat) : part ps n 0 = List.replicate n (0, ByteArray.empty, ByteArray.empty) := by simp [part]
theorem part_all (ps : List TF) (n : Nat) (h : ps.length = n) : part ps n n = ps := by
  unfold part
  rw [← h]; simp

theorem part_step (ps : List TF) (n k : Nat) (h : ps.length = n) (hk : k < n) : (((part ps n k).modify k fun p => ((elF ps k).1, p.2)).modify k (fun p => (p.1, (elF ps k).2.1, p.2.2))).modify k (fun p => (p.1, p.2.1, (elF ps k).2.2)) = part ps n (k + 1) := by
  subst h
  unfold part
  apply List.ext_getElem?
  intro j
  have l1 : (ps.take k).length = k := by simp; omega
  have l2 : (ps.take (k + 1)).length = k + 1 := by simp; omega
  rw [List.getElem?_modify, List.getElem?_modify, List.getElem?_modify]
  by_cases e : k = j
  · subst e
    rw [List.getElem?_append_right (by omega), List.getElem?_append_left (by omega), List.getElem?_take, if_pos (by omega), l1]
    simp [List.getD, hk, show 0 < ps.length - k by omega]
  · by_cases l : j < k
    · rw [List.getElem?_append_left (by omega), List.getElem?_append_left (by omega), List.getElem?_take, List.getElem?_take, if_pos l, if_pos (by omega)]
      simp [e]
    · rw [List.getElem?_append_right (by omega), List.getElem?_append_right (by omega), l1, l2]
      simp only [List.getElem?_replicate]
      by_cases m : j < ps.length
      · rw [if_pos (by omega), if_pos (by omega)]; simp [e]
      · rw [if_neg (by omega), if_neg (by omega)]; simp [e]

theorem two_more (w : World) (o p : Obj) : Below w.heap.size w ((w.alloc o).alloc p).drew := (((Below.refl _ _).alloc (Nat.le_refl _) _).alloc (by simp) _).drew


end Go.Proofs.Ytejbbhjhinkcdaa.HelpF14
