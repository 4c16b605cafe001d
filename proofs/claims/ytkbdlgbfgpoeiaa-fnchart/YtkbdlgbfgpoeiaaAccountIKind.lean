/- Contracts of the program's AccountsOk and AccountKind. Condition: a list of at most 2^20 pairs. -/
import Derived.Test.YtkbdlgbfgpoeiaaAccountIPlace
namespace Go.Proofs.Ytkbdlgbfgpoeiaa.AccountIKind
open Go.ChangeShapes Go.WideShapes Go.ChangeAt Go.RowKit Pairs Chart AccountIOk AccountIPlace
set_option linter.unusedVariables false
set_option linter.unusedSimpArgs false

set_option maxRecDepth 100000 in
theorem iChart (w : World) (g n cap : Nat) : Calls Try.prog 41 #[.slice (some ⟨g, 0, none⟩) n cap] w fun e w' => e = .returned (.agg #[.slice (some ⟨g, 0, none⟩) n cap, .int .i64 20, .int .i64 4]) ∧ Below w.heap.size w w' := by
  go_enter Try.func41, Try.ntmps41
  go_wp2
  refine bodyPost_ret (v := .agg #[.slice (some ⟨g, 0, none⟩) n cap, .int .i64 20, .int .i64 4]) (by simp [results, Try.results41, go_sem]) rfl ⟨rfl, ?_⟩
  repeat (first | exact Below.refl _ _ | refine Below.alloc ?_ (by simp; try omega) _)

set_option maxRecDepth 100000 in
theorem iKindOf (w : World) (g n cap : Nat) (ps : List (Int × Int)) (no : Int) (hl : ps.length = n) (h20 : n ≤ 1048576) (hg : g < w.heap.size) (h : At w g ps) :
    Calls Try.prog 44 #[.agg #[.slice (some ⟨g, 0, none⟩) n cap, .int .i64 20, .int .i64 4], .int .i64 no] w fun e w' => ∃ r, IsKind 20 4 ps no r ∧ e = .returned (.int .i64 r) ∧ Below w.heap.size w w' := by
  obtain ⟨ok, OK⟩ := says_of 20 4 ps
  have b0 : Below w.heap.size w (w.alloc (.cells #[.slice (some ⟨g, 0, none⟩) n cap, .int .i64 20, .int .i64 4] 65)) := (Below.refl _ _).alloc (Nat.le_refl _) _
  have H := hide (h.below b0 hg)
  have HB := hide b0
  clear h b0
  cases ok
  · go_enter Try.func44, Try.ntmps44
    go_wp2_with fail
    refine (iOk _ g n cap ps false hl h20 (by simp; omega) (unhide H) OK).mono ?_
    rintro e w1 ⟨rfl, b1⟩
    have bb := hide (next (unhide HB) b1)
    clear b1
    go_wp2
    go_ret
    exact ⟨0, .inr ⟨.inl OK.no, rfl⟩, rfl, unhide bb⟩
  · go_enter Try.func44, Try.ntmps44
    go_wp2_with fail
    refine (iOk _ g n cap ps true hl h20 (by simp; omega) (unhide H) OK).mono ?_
    rintro e w1 ⟨rfl, b1⟩
    have A1 := hide ((unhide H).below b1 (by simp; omega))
    have B1 := hide (next (unhide HB) b1)
    have s1 := b1.size
    have c0 : w1.cell? ⟨w.heap.size, 0, none⟩ = some (.slice (some ⟨g, 0, none⟩) n cap) := (b1.cell (p := ⟨w.heap.size, 0, none⟩) (by simp)).trans (by simp)
    have c1 : w1.cell? ⟨w.heap.size, 1, none⟩ = some (.int .i64 20) := (b1.cell (p := ⟨w.heap.size, 1, none⟩) (by simp)).trans (by simp)
    have c2 : w1.cell? ⟨w.heap.size, 2, none⟩ = some (.int .i64 4) := (b1.cell (p := ⟨w.heap.size, 2, none⟩) (by simp)).trans (by simp)
    simp only [World.size_alloc] at s1
    clear b1
    go_wp2_with fail
    refine (iPlace _ g n cap ps no hl h20 (by omega) (unhide A1) (hide OK.yes.asc)).mono ?_
    rintro e w2 ⟨c, f, hc, hf, rfl, b2⟩
    have A2 := hide ((unhide A1).below b2 (by omega))
    have B2 := hide (next (unhide B1) b2)
    have d0 := (b2.cell (p := ⟨w.heap.size, 0, none⟩) (by show w.heap.size < _; omega)).trans c0
    clear b2 c0 c1 c2
    cases f
    · have K0 := hide (show IsKind 20 4 ps no 0 from .inr ⟨.inr (fun i hi e => hf.no (by
        have := hc.1
        rcases Nat.lt_trichotomy i c with l | l | l
        · have := hc.2.1 i l; omega
        · subst l; exact ⟨hi, e⟩
        · have h1 := hc.2.2 (by omega)
          have := OK.yes.asc i c l hi
          omega)), rfl⟩)
      clear hc hf
      go_wp2
      go_ret
      exact ⟨0, unhide K0, rfl, unhide B2⟩
    · obtain ⟨lt, eq⟩ := hf.yes
      have K0 := hide (show IsKind 20 4 ps no (el ps c).2 from .inl ⟨OK.yes, c, lt, eq, rfl⟩)
      obtain ⟨e1, e2⟩ := (unhide A2) c lt
      rw [hl] at lt
      clear hc hf eq
      generalize (el ps c).1 = x at *
      generalize (el ps c).2 = y at *
      have hfd : ∀ w : World, (Instr.field 85 (.agg #[.int .i64 x, .int .i64 y]) 1).run Try.prog w = .ok (.int .i64 y) w := fun _ => by kernel_rfl
      go_wp2
      go_ret
      exact ⟨y, unhide K0, rfl, unhide B2⟩

set_option maxRecDepth 100000 in
theorem iKind (w : World) (g n cap : Nat) (ps : List (Int × Int)) (no : Int) (hl : ps.length = n) (h20 : n ≤ 1048576) (hg : g < w.heap.size) (h : At w g ps) :
    Calls Try.prog 14 #[.slice (some ⟨g, 0, none⟩) n cap, .int .i64 no] w fun e w' => ∃ r, IsKind 20 4 ps no r ∧ e = .returned (.int .i64 r) ∧ Below w.heap.size w w' := by
  have H := hide h
  clear h
  go_enter Try.func14, Try.ntmps14
  go_wp2_with fail
  refine (iChart _ g n cap).mono ?_
  rintro e w1 ⟨rfl, b1⟩
  have A1 := hide ((unhide H).below b1 hg)
  have B1 := hide b1
  have s1 := b1.size
  clear b1
  go_wp2_with fail
  refine (iKindOf _ g n cap ps no hl h20 (by omega) (unhide A1)).mono ?_
  rintro e w2 ⟨r, hr, rfl, b2⟩
  have B2 := hide (next (unhide B1) b2)
  have K := hide hr
  clear b2 hr
  go_wp2
  go_ret
  exact ⟨r, unhide K, rfl, unhide B2⟩

set_option maxRecDepth 100000 in
theorem iOks (w : World) (g n cap : Nat) (ps : List (Int × Int)) (ok : Bool) (hl : ps.length = n) (h20 : n ≤ 1048576) (hg : g < w.heap.size) (h : At w g ps) (hok : Says ok 20 4 ps) :
    Calls Try.prog 15 #[.slice (some ⟨g, 0, none⟩) n cap] w fun e w' => e = .returned (.bool ok) ∧ Below w.heap.size w w' := by
  have H := hide h
  clear h
  go_enter Try.func15, Try.ntmps15
  go_wp2_with fail
  refine (iChart _ g n cap).mono ?_
  rintro e w1 ⟨rfl, b1⟩
  have A1 := hide ((unhide H).below b1 hg)
  have B1 := hide b1
  have s1 := b1.size
  clear b1
  go_wp2_with fail
  refine (iOk _ g n cap ps ok hl h20 (by omega) (unhide A1) hok).mono ?_
  rintro e w2 ⟨rfl, b2⟩
  have B2 := hide (next (unhide B1) b2)
  clear b2
  go_wp2
  go_ret
  exact ⟨rfl, unhide B2⟩

end Go.Proofs.Ytkbdlgbfgpoeiaa.AccountIKind
