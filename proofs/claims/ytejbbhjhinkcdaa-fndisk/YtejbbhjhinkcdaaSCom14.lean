/- Disks: what the specification's calls on disks have in common: how they begin, and how they end. -/
import Derived.Test.YtejbbhjhinkcdaaSRef14
namespace Go.Proofs.Ytejbbhjhinkcdaa.SCom14
open Go.ChangeShapes Go.WideShapes Go.ChangeAt Go.RowKit Fil14 OpensF14 DiskH14 DkH14 SDk14 SOk14 SRd14 App14 SLess14 SCopy14 SRef14
set_option linter.unusedVariables false
set_option linter.unusedSimpArgs false

/-- A disk and a code are told, the disk's memory the call's own. -/
def ToldD (r : (Int × List TF) × Int) (w : World) (e : Ending) (w' : World) : Prop := ∃ y : Dx, (y.room, y.ps) = r.1 ∧ e = .returned (.tuple #[.agg #[.int .i64 y.room, .slice y.a y.ps.length y.c], .int .i64 r.2]) ∧ OwD w' w.heap.size y ∧ Below w.heap.size w w'

/-- An index into files whose list may be nil. -/
theorem ixF {a : Option Addr} {g n k : Nat} (c : Nat) (e : a = some ⟨g, 0, none⟩) (h : k < n) (w : World) : (Instr.indexAt 24 (.slice a n c) (.int .i64 k)).run Try.prog w = .ok (.pointer (some ⟨g, k * 3, none⟩)) w := by
  subst e
  have : (k : Int) < n := by omega
  simp [go_sem, this]

theorem at_in {room : Int} {ps : List TF} {nm : Int} (h : (atD room ps nm).2 = 0) : OkD room ps ∧ okN nm = true ∧ ∃ k : Nat, (atD room ps nm).1 = k ∧ k < ps.length ∧ (elF ps k).1 = nm := by
  unfold atD at h ⊢
  by_cases q : OkD room ps ∧ okN nm = true
  · rw [if_pos q] at h ⊢
    by_cases n : findF ps nm < 0
    · simp [n] at h
    · obtain ⟨k, e, l, m⟩ := findF_in (ps := ps) (nm := nm) (by omega)
      exact ⟨q.1, q.2, k, e, l, m⟩
  · rw [if_neg q] at h; simp at h

/-- The worlds in which the functions begin: the disk in a box, and the result's. -/
theorem begunD {w : World} {x : Dx} (hr : RdD w x) : Wd w ((w.alloc (.cells #[.int .i64 x.room, .slice x.a x.ps.length x.c] 26)).alloc (.cells #[.int .i64 0, .slice none 0 0] 26)) x ∧ Bc ((w.alloc (.cells #[.int .i64 x.room, .slice x.a x.ps.length x.c] 26)).alloc (.cells #[.int .i64 0, .slice none 0 0] 26)) w.heap.size (w.heap.size + 1) (.int .i64 0) (.slice none 0 0) :=
  ⟨(Wd.made hr _).step (one_more _ _), Bc.made _ _ (by simp) (by simp)⟩

/-- The end: the disk that was made is stored into the result. -/
theorem endedD {w u : World} {base0 : Nat} {y : Dx} (b : Below w.heap.size w u) (rb : Bc u w.heap.size (w.heap.size + 1) (.int .i64 0) (.slice none 0 0)) (o : OwD u base0 y) (hb : w.heap.size + 1 < base0) : OwD ((u.setCell ⟨w.heap.size + 1, 0, none⟩ (.int .i64 y.room)).setCell ⟨w.heap.size + 1, 1, none⟩ (.slice y.a y.ps.length y.c)) w.heap.size y ∧ Below w.heap.size w ((u.setCell ⟨w.heap.size + 1, 0, none⟩ (.int .i64 y.room)).setCell ⟨w.heap.size + 1, 1, none⟩ (.slice y.a y.ps.length y.c)) := by
  have s0 := rb.set0 (.int .i64 y.room)
  have s1 := bc_set1 s0.1 (.slice y.a y.ps.length y.c)
  have st := grow_grow s0.2 s1.2
  exact ⟨row_base (row_kept o st hb) (by omega), grow_low b st ⟨by omega, b.size⟩⟩

end Go.Proofs.Ytejbbhjhinkcdaa.SCom14
