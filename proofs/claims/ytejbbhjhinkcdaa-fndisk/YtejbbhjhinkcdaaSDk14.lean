/- Disks: the specification's size of one, and where a file stands. -/
import Derived.Test.YtejbbhjhinkcdaaDkH14
import Derived.Deep.RegionHeld3
namespace Go.Proofs.Ytejbbhjhinkcdaa.SDk14
open Go.ChangeShapes Go.WideShapes Go.ChangeAt Go.RowKit Fil14 OpensF14 DiskH14 DkH14
set_option linter.unusedVariables false
set_option linter.unusedSimpArgs false

/-- Where a file of this name stands, or -1. -/
def findF (ps : List TF) (nm : Int) : Int := match ps.findIdx? (fun p => p.1 == nm) with | some i => i | none => -1

theorem sumZ_le (ps : List TF) (k : Nat) : sumZ (ps.take k) ≤ sumZ ps := by
  have := sumZ_append (ps.take k) (ps.drop k)
  rw [List.take_append_drop] at this
  omega
theorem cells_of {w : World} {x : Dx} (h : RdD w x) {k : Nat} (hk : k < x.ps.length) : ∃ g, x.a = some ⟨g, 0, none⟩ ∧ g < w.heap.size ∧ HoldsF w g (k * 3) (elF x.ps k) := by
  obtain ⟨g, e⟩ := h.e (by omega)
  exact ⟨g, e, (h.r g e).1, (h.r g e).2 k hk⟩

/-- A world in which a call keeps its disk in a box at the call's head. -/
structure Wd (w wr : World) (x : Dx) : Prop where
  c0 : wr.cell? ⟨w.heap.size, 0, none⟩ = some (.int .i64 x.room)
  c1 : wr.cell? ⟨w.heap.size, 1, none⟩ = some (.slice x.a x.ps.length x.c)
  lt : w.heap.size < wr.heap.size
  b : Below w.heap.size w wr
  r : RdD wr x
theorem Wd.made {w : World} {x : Dx} (hr : RdD w x) (t : TypeId) : Wd w (w.alloc (.cells #[.int .i64 x.room, .slice x.a x.ps.length x.c] t)) x :=
  ⟨by simp [go_sem], by simp [go_sem], by simp, one_more _ _, hr.below (one_more _ _)⟩
theorem Wd.step {w wr wz : World} {x : Dx} (h : Wd w wr x) (k : Below wr.heap.size wr wz) : Wd w wz x :=
  ⟨(k.cell (p := ⟨w.heap.size, 0, none⟩) h.lt).trans h.c0, (k.cell (p := ⟨w.heap.size, 1, none⟩) h.lt).trans h.c1, Nat.lt_of_lt_of_le h.lt k.size, h.b.trans (k.mono h.b.size), h.r.below k⟩
theorem Wd.drew {w wr : World} {x : Dx} (h : Wd w wr x) : Wd w wr.drew x := h.step (Below.refl _ _).drew

set_option maxRecDepth 100000 in
set_option maxHeartbeats 4000000 in
theorem sSize (w : World) (x : Dx) (hr : RdD w x) (hz : sumZ x.ps ≤ 1048576) :
    Calls Try.prog 24 #[.agg #[.int .i64 x.room, .slice x.a x.ps.length x.c]] w fun e w' => e = .returned (.int .i64 (sumZ x.ps)) ∧ Below w.heap.size w w' := by
  have W0 := hide (Wd.made hr 26)
  have h20 := hr.n
  clear hr
  go_enter Try.func24, Try.ntmps24
  go_wp2
  go_loopw [3, 4] (fun n i wr => ∃ (k : Nat) (y : Int), k ≤ x.ps.length ∧ i = .int .i64 k ∧ n = .int .i64 y ∧ 0 ≤ y ∧ y ≤ 1048576 ∧ Hid (y = sumZ (x.ps.take k)) ∧ Hid (Wd w wr x)) (fun _ i _ => x.ps.length - (intOf i).toNat)
  case atStart => exact ⟨0, 0, by omega, rfl, rfl, by omega, by omega, hide (by simp [sumZ]), W0⟩
  case round =>
    clear W0
    obtain ⟨k, y, hk, rfl, rfl, y0, y1, HY, HW⟩ := hrel
    have c1 := (unhide HW).c1
    have lt := (unhide HW).lt
    by_cases t : k < x.ps.length
    · have kt : (k : Int) < x.ps.length := by omega
      have NX := sumZ_next t
      have LE := sumZ_le x.ps (k + 1)
      have YE := unhide HY
      obtain ⟨g, ea, lg, d0, d1, d2⟩ := cells_of (unhide HW).r t
      generalize (elF x.ps k).1 = z0 at *
      generalize (elF x.ps k).2.1 = z1 at *
      generalize (elF x.ps k).2.2 = z2 at *
      have b1 : (z1.size : Int) ≤ 1048576 := by omega
      have b2 : y + z1.size + z2.size ≤ 1048576 := by omega
      have a1 : wrap64 (y + z1.size) = y + z1.size := by rw [wrap64]; omega
      have a2 : wrap64 (y + z1.size + z2.size) = y + z1.size + z2.size := by rw [wrap64]; omega
      have NY := hide (show y + z1.size + z2.size = sumZ (x.ps.take (k + 1)) by omega)
      clear NX LE YE
      rw [ea] at c1
      go_wp2_with fail
      go_region
      go_wp2
      go_roundw
      case rel => exact ⟨k + 1, y + z1.size + z2.size, by omega, by go_num, rfl, by omega, by omega, NY, (unhide HW).drew⟩
      case measure => simp [intOf]; omega
    · have e : k = x.ps.length := by omega
      have E := hide (show y = sumZ x.ps by have := unhide HY; rw [e, List.take_length] at this; exact this)
      have kt : ¬ (k : Int) < x.ps.length := by omega
      clear HY
      subst e
      go_wp2
      go_ret
      exact ⟨congrArg (fun z => Ending.returned (.int .i64 z)) (unhide E), (unhide HW).b⟩

theorem elF_get {ps : List TF} {k : Nat} (hk : k < ps.length) : elF ps k = ps[k] := by simp [List.getD, hk]
theorem findF_at {ps : List TF} {nm : Int} {k : Nat} (hk : k < ps.length) (h : ∀ j, j < k → (elF ps j).1 ≠ nm) (e : (elF ps k).1 = nm) : findF ps nm = k := by
  have : ps.findIdx? (fun p => p.1 == nm) = some k := by
    rw [List.findIdx?_eq_some_iff_getElem]
    refine ⟨hk, by rw [elF_get hk] at e; simp [e], fun j hj => ?_⟩
    have := h j hj
    rw [elF_get (by omega)] at this
    simp [this]
  unfold findF
  rw [this]
theorem findF_no {ps : List TF} {nm : Int} (h : ∀ j, j < ps.length → (elF ps j).1 ≠ nm) : findF ps nm = -1 := by
  have : ps.findIdx? (fun p => p.1 == nm) = none := by
    rw [List.findIdx?_eq_none_iff]
    intro q hq
    obtain ⟨i, hi, rfl⟩ := List.getElem_of_mem hq
    have := h i hi
    rw [elF_get hi] at this
    simp [this]
  unfold findF
  rw [this]
theorem findF_in {ps : List TF} {nm : Int} (h : 0 ≤ findF ps nm) : ∃ k : Nat, findF ps nm = k ∧ k < ps.length ∧ (elF ps k).1 = nm := by
  unfold findF at *
  cases q : ps.findIdx? (fun p => p.1 == nm) with
  | none => rw [q] at h; simp at h
  | some i =>
    rw [List.findIdx?_eq_some_iff_getElem] at q
    obtain ⟨hi, e, _⟩ := q
    exact ⟨i, rfl, hi, by rw [elF_get hi]; simpa using e⟩
theorem findF_low (ps : List TF) (nm : Int) : -1 ≤ findF ps nm ∧ findF ps nm < ps.length := by
  by_cases h : 0 ≤ findF ps nm
  · obtain ⟨k, e, l, _⟩ := findF_in h
    omega
  · unfold findF at *
    cases q : ps.findIdx? (fun p => p.1 == nm) with
    | none => simp; omega
    | some i => rw [q] at h; simp at h

set_option maxRecDepth 100000 in
set_option maxHeartbeats 4000000 in
theorem sFind (w : World) (x : Dx) (nm : Int) (hr : RdD w x) :
    Calls Try.prog 36 #[.agg #[.int .i64 x.room, .slice x.a x.ps.length x.c], .int .i64 nm] w fun e w' => e = .returned (.int .i64 (findF x.ps nm)) ∧ Below w.heap.size w w' := by
  have W0 := hide (Wd.made hr 26)
  have h20 := hr.n
  clear hr
  go_enter Try.func36, Try.ntmps36
  go_wp2
  go_loopw [5] (fun i wr => ∃ (k : Nat), k ≤ x.ps.length ∧ i = .int .i64 k ∧ Hid (∀ j, j < k → (elF x.ps j).1 ≠ nm) ∧ Hid (Wd w wr x)) (fun i _ => x.ps.length - (intOf i).toNat)
  case atStart => exact ⟨0, by omega, rfl, hide (fun j h => absurd h (by omega)), W0⟩
  case round =>
    clear W0
    obtain ⟨k, hk, rfl, HY, HW⟩ := hrel
    have c1 := (unhide HW).c1
    have lt := (unhide HW).lt
    by_cases t : k < x.ps.length
    · have kt : (k : Int) < x.ps.length := by omega
      have AT := hide (fun e => findF_at t (unhide HY) e)
      have NO := hide (fun (e : ¬ (elF x.ps k).1 = nm) j (h : j < k + 1) => show (elF x.ps j).1 ≠ nm from by
        by_cases q : j = k
        · subst q; exact e
        · exact (unhide HY) j (by omega))
      obtain ⟨g, ea, lg, d0, d1, d2⟩ := cells_of (unhide HW).r t
      generalize (elF x.ps k).1 = z0 at *
      clear HY d1 d2
      rw [ea] at c1
      by_cases q : z0 = nm
      · have A := hide ((unhide AT) q)
        clear AT NO
        subst q
        go_wp2
        go_ret
        exact ⟨congrArg (fun z => Ending.returned (.int .i64 z)) (unhide A).symm, (unhide HW).b⟩
      · have N := hide ((unhide NO) q)
        clear AT NO
        go_wp2
        go_roundw
        case rel => exact ⟨k + 1, by omega, by go_num, N, HW⟩
        case measure => simp [intOf]; omega
    · have e : k = x.ps.length := by omega
      have E := hide (show findF x.ps nm = -1 from findF_no (by rw [← e]; exact unhide HY))
      clear HY
      subst e
      go_wp2
      go_ret
      exact ⟨congrArg (fun z => Ending.returned (.int .i64 z)) (unhide E).symm, (unhide HW).b⟩
