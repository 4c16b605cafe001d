/- Disks: the laws' own sizes, copies and equality. -/
import Derived.Test.YtnjhgkclcnfooabOpensF14
namespace Go.Proofs.Ytnjhgkclcnfooab.DiskH14
open Go.ChangeShapes Go.WideShapes Go.ChangeAt Go.RowKit Fil14 OpensF14
set_option linter.unusedVariables false
set_option linter.unusedSimpArgs false

theorem one_more (w : World) (o : Obj) : Below w.heap.size w (w.alloc o) := (Below.refl _ _).alloc (Nat.le_refl _) _

/-- How many bytes files hold together. -/
def sumZ : List TF → Nat
  | [] => 0
  | p :: r => p.2.1.size + p.2.2.size + sumZ r
theorem sumZ_append (ps qs : List TF) : sumZ (ps ++ qs) = sumZ ps + sumZ qs := by
  induction ps with
  | nil => simp [sumZ]
  | cons p r ih => simp only [List.cons_append, sumZ, ih]; omega
theorem sumZ_next {ps : List TF} {k : Nat} (h : k < ps.length) : sumZ (ps.take (k + 1)) = sumZ (ps.take k) + ((elF ps k).2.1.size + (elF ps k).2.2.size) := by
  rw [List.take_succ_eq_append_getElem h, sumZ_append]
  simp [sumZ, List.getD, h]
theorem fit_el {ps : List TF} (h : FitF ps) {k : Nat} (hk : k < ps.length) : (elF ps k).2.1.size ≤ 9223372036854775807 ∧ (elF ps k).2.2.size ≤ 9223372036854775807 := by
  have := h (ps[k]) (List.getElem_mem _)
  simpa [List.getD, hk] using this

set_option maxRecDepth 100000 in
theorem szF (w : World) (x : Int) (s t : ByteArray) (left : Int) (h0 : 0 ≤ left) (h1 : left ≤ 1048576) (f1 : s.size ≤ 9223372036854775807) (f2 : t.size ≤ 9223372036854775807) :
    Calls Try.prog 30 #[.agg #[.int .i64 x, .string s, .string t], .int .i64 left] w fun e w' => ∃ r, e = .returned (.int .i64 r) ∧ (r = -1 ∨ (0 ≤ r ∧ r + s.size + t.size = left)) ∧ Below w.heap.size w w' := by
  have B0 := hide (one_more w (.cells #[.int .i64 x, .string s, .string t] 54))
  generalize hn : s.size = n at *
  generalize hm : t.size = m at *
  have HN := hide hn
  have HM := hide hm
  by_cases q : left - (n : Int) < 0
  · go_enter Try.func30, Try.ntmps30
    go_wp2
    go_ret
    exact ⟨-1, rfl, .inl rfl, unhide B0⟩
  by_cases q2 : left - (n : Int) - (m : Int) < 0
  · go_enter Try.func30, Try.ntmps30
    go_wp2
    go_ret
    exact ⟨-1, rfl, .inl rfl, unhide B0⟩
  · go_enter Try.func30, Try.ntmps30
    go_wp2
    go_ret
    exact ⟨left - n - m, rfl, .inr ⟨by omega, by omega⟩, unhide B0⟩

set_option maxRecDepth 100000 in
theorem szFS (w : World) (a : Option Addr) (len cap : Nat) (ps : List TF) (hl : ps.length = len) (hx : len ≤ 9223372036854775807) (hr : ReadsF w a ps) (hf : FitF ps) :
    Calls Try.prog 14 #[.slice a len cap, .int .i64 1048576] w fun e w' => ∃ r, e = .returned (.int .i64 r) ∧ (r = -1 ∨ (0 ≤ r ∧ len ≤ 1048576 ∧ sumZ ps ≤ 1048576)) ∧ Below w.heap.size w w' := by
  have B0 := hide (Below.refl w.heap.size w)
  have R := hide hr
  have HF := hide hf
  have HL := hide hl
  clear hr hf
  by_cases q : (1048576 : Int) - (len : Int) < 0
  · clear hl
    go_enter Try.func14, Try.ntmps14
    go_wp2
    go_ret
    exact ⟨-1, rfl, .inl rfl, unhide B0⟩
  have l20 : len ≤ 1048576 := by omega
  go_enter Try.func14, Try.ntmps14
  go_wp2
  go_loopw [1, 5] (fun m i wr => ∃ (k : Nat) (left : Int), k ≤ len ∧ i = .int .i64 k ∧ m = .int .i64 left ∧ 0 ≤ left ∧ left ≤ 1048576 ∧ Hid (left + len + sumZ (ps.take k) = 1048576) ∧ Hid (Below w.heap.size w wr)) (fun _ i _ => len - (intOf i).toNat)
  case atStart => exact ⟨0, 1048576 - (len : Int), by omega, rfl, rfl, by omega, by omega, hide (by simp [sumZ]), B0⟩
  case round =>
    clear B0
    obtain ⟨k, left, hk, rfl, rfl, l0, l1, HS, HB⟩ := hrel
    by_cases t : k < len
    · have tk : k < ps.length := by omega
      have NX := hide (sumZ_next tk)
      have F := fit_el (unhide HF) tk
      rcases (unhide R).below (unhide HB |>.mono (Nat.le_refl _)) with h | ⟨b, off, rfl, lb, hc⟩
      · omega
      obtain ⟨d0, d1, d2⟩ := hc k tk
      have SF := hide (fun u => szF u (elF ps k).1 (elF ps k).2.1 (elF ps k).2.2 left l0 l1 F.1 F.2)
      have kt : (k : Int) < len := by omega
      clear F hc
      generalize (elF ps k).1 = y0 at *
      generalize (elF ps k).2.1 = y1 at *
      generalize (elF ps k).2.2 = y2 at *
      go_wp2_with fail
      refine ((unhide SF) _).mono ?_
      rintro e u ⟨r, rfl, hr, bb⟩
      have B1 := hide ((unhide HB).trans (bb.mono (unhide HB).size))
      clear bb SF
      rcases hr with rfl | ⟨r0, r1⟩
      · go_wp2
        go_ret
        exact ⟨-1, rfl, .inl rfl, unhide B1⟩
      · have rn : ¬ r < 0 := by omega
        have R1 := hide r1
        have L0 := hide (And.intro l0 l1)
        clear r1 l0 l1
        go_wp2
        go_roundw
        case rel => exact ⟨k + 1, r, by omega, by go_num, rfl, r0, by have := unhide R1; have := unhide L0; omega, hide (by have := unhide R1; have := unhide HS; rw [unhide NX]; omega), B1⟩
        case measure => simp [intOf]; omega
    · have e : k = len := by omega
      subst e
      have S := unhide HS
      rw [← hl, List.take_length] at S
      have SS := hide S
      have L0 := hide l0
      clear S
      go_wp2
      go_ret
      exact ⟨left, rfl, .inr ⟨unhide L0, l20, by have := unhide SS; have := unhide L0; omega⟩, unhide HB⟩

set_option maxRecDepth 100000 in
theorem szD (w : World) (room : Int) (a : Option Addr) (len cap : Nat) (ps : List TF) (hl : ps.length = len) (hx : len ≤ 9223372036854775807) (hr : ReadsF w a ps) (hf : FitF ps) :
    Calls Try.prog 5 #[.agg #[.int .i64 room, .slice a len cap], .int .i64 1048576] w fun e w' => ∃ r, e = .returned (.int .i64 r) ∧ (r = -1 ∨ (0 ≤ r ∧ len ≤ 1048576 ∧ sumZ ps ≤ 1048576)) ∧ Below w.heap.size w w' := by
  have b0 := one_more w (.cells #[.int .i64 room, .slice a len cap] 24)
  have S := hide (szFS _ a len cap ps hl hx (hr.below b0) hf)
  have B0 := hide b0
  clear b0 hr hf
  go_enter Try.func5, Try.ntmps5
  go_wp2_with fail
  refine (unhide S).mono ?_
  rintro e u ⟨r, rfl, h, bb⟩
  have B1 := hide ((unhide B0).trans (bb.mono (unhide B0).size))
  have H := hide h
  clear bb S
  rcases h with rfl | ⟨r0, _⟩
  · go_wp2
    go_ret
    exact ⟨-1, rfl, .inl rfl, unhide B1⟩
  · have rn : ¬ r < 0 := by omega
    go_wp2
    go_ret
    exact ⟨r, rfl, unhide H, unhide B1⟩

set_option maxRecDepth 100000 in
theorem toF (w : World) (x : Int) (s t : ByteArray) : Calls Try.prog 34 #[.agg #[.int .i64 x, .string s, .string t]] w fun e w' => e = .returned (.agg #[.int .i64 x, .string s, .string t]) ∧ Below w.heap.size w w' := by
  go_enter Try.func34, Try.ntmps34
  go_wp2
  refine bodyPost_ret (v := .agg #[.int .i64 x, .string s, .string t]) (by simp [results, Try.results34, go_sem]) rfl ⟨rfl, ?_⟩
  exact (((Below.refl _ w).alloc (Nat.le_refl _) _).alloc (by simp) _).alloc (by simp; omega) _

set_option maxRecDepth 100000 in
theorem eqF (w : World) (x : Int) (s t : ByteArray) : Calls Try.prog 36 #[.agg #[.int .i64 x, .string s, .string t], .agg #[.int .i64 x, .string s, .string t]] w fun e w' => e = .returned (.bool true) ∧ Below w.heap.size w w' := by
  have h0 : (x != x) = false := by simp
  have b1 := one_more w (.cells #[.int .i64 x, .string s, .string t] 46)
  have b2 := one_more (w.alloc (.cells #[.int .i64 x, .string s, .string t] 46)) (.cells #[.int .i64 x, .string s, .string t] 46)
  have B := hide (b1.trans (b2.mono b1.size))
  clear b1 b2
  go_enter Try.func36, Try.ntmps36
  go_wp2
  go_ret
  exact ⟨rfl, unhide B⟩

end Go.Proofs.Ytnjhgkclcnfooab.DiskH14
