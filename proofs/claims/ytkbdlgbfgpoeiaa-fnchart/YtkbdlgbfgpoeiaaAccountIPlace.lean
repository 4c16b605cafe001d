/- Contracts of the program's search for a place in a chart (Account), over the library's own binary search. Conditions: the chart is ascending; a list of at most 2^20 pairs. -/
import Derived.Test.YtkbdlgbfgpoeiaaAccountIOk
import Derived.Deep.LoopGhost
namespace Go.Proofs.Ytkbdlgbfgpoeiaa.AccountIPlace
open Go.ChangeShapes Go.WideShapes Go.ChangeAt Go.RowKit Pairs Chart
set_option linter.unusedVariables false
set_option linter.unusedSimpArgs false

/-- What the comparison says. -/
def Cmp (x y r : Int) : Prop := (x < y ∧ r = -1) ∨ (y < x ∧ r = 1) ∨ (x = y ∧ r = 0)

theorem iCompare (x y : Int) (w : World) : Calls Try.prog 64 #[.int .i64 x, .int .i64 y] w fun e w' => ∃ r, Cmp x y r ∧ e = .returned (.int .i64 r) ∧ w' = w := by
  by_cases h1 : x < y
  · go_enter Try.func64, Try.ntmps64
    go_wp2
    go_ret
    exact ⟨-1, .inl ⟨h1, rfl⟩, rfl, rfl⟩
  · by_cases h2 : y < x
    · go_enter Try.func64, Try.ntmps64
      go_wp2
      go_ret
      exact ⟨1, .inr (.inl ⟨h2, rfl⟩), rfl, rfl⟩
    · go_enter Try.func64, Try.ntmps64
      go_wp2
      go_ret
      exact ⟨0, .inr (.inr ⟨by omega, rfl⟩), rfl, rfl⟩

set_option maxRecDepth 100000 in
theorem iCmp (x y no : Int) (w : World) : Calls Try.prog 63 #[.agg #[.int .i64 x, .int .i64 y], .int .i64 no] w fun e w' => ∃ r, Cmp x no r ∧ e = .returned (.int .i64 r) ∧ Below w.heap.size w w' := by
  have hfd : ∀ w : World, (Instr.field 85 (.agg #[.int .i64 x, .int .i64 y]) 0).run Try.prog w = .ok (.int .i64 x) w := fun _ => by kernel_rfl
  go_enter Try.func63, Try.ntmps63
  go_wp2_with fail
  refine (iCompare x no _).mono ?_
  rintro e w1 ⟨r, hr, rfl, rfl⟩
  go_wp2
  go_ret
  exact ⟨r, hr, rfl, by repeat (first | exact Below.refl _ _ | refine Below.alloc ?_ (by simp; try omega) _)⟩

set_option maxRecDepth 100000 in
set_option maxHeartbeats 2000000 in
theorem iSearch (w : World) (g n cap : Nat) (ps : List (Int × Int)) (no : Int) (hl : ps.length = n) (h20 : n ≤ 1048576) (hg : g < w.heap.size) (h : At w g ps) (asc : Hid (∀ j i, i < j → j < ps.length → (el ps i).1 < (el ps j).1)) :
    Calls Try.prog 62 #[.slice (some ⟨g, 0, none⟩) n cap, .int .i64 no, .func (.func 63) #[] #[]] w fun e w' => ∃ c f, IsPlace ps no c ∧ StandsAt f ps no c ∧ e = .returned (.tuple #[.int .i64 (c : Nat), .bool f]) ∧ Below w.heap.size w w' := by
  go_enter Try.func62, Try.ntmps62
  go_wp2
  go_loopw [9, 10] (fun p q wr => ∃ (lo hi : Nat), lo ≤ hi ∧ hi ≤ n ∧ p = .int .i64 lo ∧ q = .int .i64 hi ∧ At wr g ps ∧ Below w.heap.size w wr ∧ Hid ((∀ t, t < lo → (el ps t).1 < no) ∧ ∀ t, hi ≤ t → t < n → no ≤ (el ps t).1)) (fun p q _ => (intOf q).toNat - (intOf p).toNat)
  case atStart => exact ⟨0, n, by omega, by omega, rfl, rfl, h, Below.refl _ _, hide ⟨fun t ht => by omega, fun t h1 h2 => by omega⟩⟩
  case round =>
    clear h
    obtain ⟨lo, hi, hlh, hin, rfl, rfl, h, hb, HI⟩ := hrel
    have sz := hb.size
    by_cases t : lo < hi
    · obtain ⟨m, hm⟩ : ∃ m, m = (lo + hi) / 2 := ⟨_, rfl⟩
      obtain ⟨e1, e2⟩ := h m (by omega)
      have HA := hide h
      have HB := hide hb
      clear h hb
      have LOW := hide (show (el ps m).1 < no → ∀ t, t < m + 1 → (el ps t).1 < no from fun hx t ht => by
        by_cases e : t = m
        · subst e; exact hx
        · have := (unhide asc) m t (by omega) (by omega)
          omega)
      have HIGH := hide (show ¬ (el ps m).1 < no → ∀ t, m ≤ t → t < n → no ≤ (el ps t).1 from fun hx t h1 h2 => by
        by_cases e : t = m
        · subst e; omega
        · have := (unhide asc) t m (by omega) (by omega)
          omega)
      generalize (el ps m).1 = x at *
      generalize (el ps m).2 = y at *
      have hm' : (((lo : Int) + (hi : Int)) / 2) = ((m : Nat) : Int) := by omega
      have M1 : lo ≤ m := by omega
      have M2 : m < hi := by omega
      have HM := hide hm
      clear hm
      go_wp2_with fail
      refine (iCmp x y no _).mono ?_
      rintro e w1 ⟨r, hr, rfl, b1⟩
      have bb := hide (next (unhide HB) b1)
      have aa := hide ((unhide HA).below b1 (by omega))
      by_cases lt : x < no
      · obtain rfl : r = -1 := by rcases hr with ⟨_, e⟩ | ⟨h1, _⟩ | ⟨h1, _⟩ <;> omega
        have L := hide ((unhide LOW) lt)
        clear hr b1 LOW HIGH
        go_wp2
        go_roundw
        case rel => exact ⟨m + 1, hi, by omega, hin, by go_num, rfl, unhide aa, unhide bb, hide ⟨unhide L, (unhide HI).2⟩⟩
        case measure => simp [intOf]; omega
      · have nr : ¬ r < 0 := by rcases hr with ⟨h1, _⟩ | ⟨_, e⟩ | ⟨_, e⟩ <;> omega
        have L := hide ((unhide HIGH) (by omega))
        clear hr b1 LOW HIGH
        go_wp2
        go_roundw
        case rel => exact ⟨lo, m, by omega, by omega, rfl, by go_num, unhide aa, unhide bb, hide ⟨(unhide HI).1, unhide L⟩⟩
        case measure => simp [intOf]; omega
    · obtain rfl : lo = hi := by omega
      have PL := hide (show IsPlace ps no lo from ⟨by omega, (unhide HI).1, fun hx => (unhide HI).2 lo (Nat.le_refl _) (by omega)⟩)
      by_cases lt : lo < n
      · obtain ⟨e1, e2⟩ := h lo (by omega)
        have HA := hide h
        have HB := hide hb
        clear h hb
        have FT := hide (show (el ps lo).1 = no → StandsAt true ps no lo from fun z => ⟨fun _ => ⟨by omega, z⟩, fun _ => rfl⟩)
        have FN := hide (show ¬ (el ps lo).1 = no → StandsAt false ps no lo from fun z => ⟨fun e => Bool.noConfusion e, fun e => absurd e.2 z⟩)
        generalize (el ps lo).1 = x at *
        generalize (el ps lo).2 = y at *
        go_wp2_with fail
        refine (iCmp x y no _).mono ?_
        rintro e w1 ⟨r, hr, rfl, b1⟩
        have bb := hide (next (unhide HB) b1)
        by_cases eq : x = no
        · obtain rfl : r = 0 := by rcases hr with ⟨_, e⟩ | ⟨h1, _⟩ | ⟨_, e⟩ <;> omega
          have FF := (unhide FT) eq
          clear hr b1 FT FN eq
          go_wp2
          go_ret2
          exact ⟨lo, true, unhide PL, FF, rfl, unhide bb⟩
        · have nr : (r == 0) = false := by rw [beq_eq_false_iff_ne]; rcases hr with ⟨_, e⟩ | ⟨h1, _⟩ | ⟨_, e⟩ <;> omega
          have FF := (unhide FN) eq
          clear hr b1 FT FN eq
          go_wp2
          go_ret2
          exact ⟨lo, false, unhide PL, FF, rfl, unhide bb⟩
      · have HB := hide hb
        clear h hb
        go_wp2
        go_ret2
        exact ⟨lo, false, unhide PL, ⟨fun e => Bool.noConfusion e, fun e => absurd e.1 (by omega)⟩, rfl, unhide HB⟩

set_option maxRecDepth 100000 in
theorem iPlace (w : World) (g n cap : Nat) (ps : List (Int × Int)) (no : Int) (hl : ps.length = n) (h20 : n ≤ 1048576) (hg : g < w.heap.size) (h : At w g ps) (asc : Hid (∀ j i, i < j → j < ps.length → (el ps i).1 < (el ps j).1)) :
    Calls Try.prog 56 #[.agg #[.slice (some ⟨g, 0, none⟩) n cap, .int .i64 20, .int .i64 4], .int .i64 no] w fun e w' => ∃ c f, IsPlace ps no c ∧ StandsAt f ps no c ∧ e = .returned (.tuple #[.int .i64 (c : Nat), .bool f]) ∧ Below w.heap.size w w' := by
  have b0 : Below w.heap.size w (w.alloc (.cells #[.slice (some ⟨g, 0, none⟩) n cap, .int .i64 20, .int .i64 4] 65)) := (Below.refl _ _).alloc (Nat.le_refl _) _
  have H := hide (h.below b0 hg)
  have HB := hide b0
  clear h b0
  go_enter Try.func56, Try.ntmps56
  go_wp2_with fail
  refine (iSearch _ g n cap ps no hl h20 (by simp; omega) (unhide H) asc).mono ?_
  rintro e w1 ⟨c, f, hc, hf, rfl, b1⟩
  have bb := hide (next (unhide HB) b1)
  have PC := hide hc
  have PF := hide hf
  clear hc hf b1
  go_wp2
  go_ret2
  exact ⟨c, f, unhide PC, unhide PF, rfl, unhide bb⟩

end Go.Proofs.Ytkbdlgbfgpoeiaa.AccountIPlace
