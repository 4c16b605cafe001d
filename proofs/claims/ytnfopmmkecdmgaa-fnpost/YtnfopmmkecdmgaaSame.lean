/- Contracts of the laws' own helpers on balances: whether two lists are one, and whether a number is in a list. Conditions: lists of at most 2^20 elements. -/
import Derived.Test.YtnfopmmkecdmgaaInts
import Derived.Test.YtnfopmmkecdmgaaPost
import Derived.Deep.AppendLies
import Derived.Deep.RegionHeld3
namespace Go.Proofs.Ytnfopmmkecdmgaa.Same
open Go.ChangeShapes Go.WideShapes Go.ChangeAt Go.RowKit Bals Triples Legs
set_option linter.unusedVariables false
set_option linter.unusedSimpArgs false

theorem el3_ext {ps qs : List T3} (hl : ps.length = qs.length) (h : ∀ i, i < ps.length → el3 ps i = el3 qs i) : ps = qs := by
  apply List.ext_getElem hl
  intro i h1 h2
  have := h i h1
  simpa [el3, List.getD, h1, h2] using this

set_option maxRecDepth 100000 in
set_option maxHeartbeats 1000000 in
theorem same (w : World) (g1 g2 c1 c2 : Nat) (ps qs : List T3) (l1 : ps.length ≤ 1048576) (l2 : qs.length ≤ 1048576) (h1 : At3 w g1 ps) (h2 : At3 w g2 qs) :
    Calls Try.prog 10 #[.slice (some ⟨g1, 0, none⟩) ps.length c1, .slice (some ⟨g2, 0, none⟩) qs.length c2] w fun e w' => ∃ b : Bool, e = .returned (.bool b) ∧ (ps = qs → b = true) ∧ ∃ q, w' = w.drewN q := by
  by_cases ln : ps.length = qs.length
  · have H1 := hide h1
    have H2 := hide h2
    have LN := hide ln
    rw [← ln]
    generalize hn : ps.length = n at *
    have HN := hide hn
    clear h1 h2 ln hn
    go_enter Try.func10, Try.ntmps10
    go_wp2
    go_loopw [5] (fun i wr => ∃ (k : Nat), k ≤ n ∧ i = .int .i64 k ∧ At3 wr g1 ps ∧ At3 wr g2 qs ∧ Hid (∃ q, wr = w.drewN q)) (fun i _ => n - (intOf i).toNat)
    case atStart => exact ⟨0, by omega, rfl, unhide H1, unhide H2, hide ⟨0, rfl⟩⟩
    case round =>
      clear H1 H2
      obtain ⟨k, hk, rfl, h1, h2, HQ⟩ := hrel
      by_cases t : k < n
      · obtain ⟨e1, f1, i1⟩ := h1 k (by rw [unhide HN]; exact t)
        obtain ⟨e2, f2, i2⟩ := h2 k (by rw [← unhide LN]; exact t)
        have NE := hide (show ps = qs → el3 ps k = el3 qs k from fun e => by rw [e])
        have H1 := hide h1
        have H2 := hide h2
        clear h1 h2
        have kn : (k : Int) < (n : Int) := by omega
        by_cases eq : el3 ps k = el3 qs k
        · rw [← eq] at e2 f2 i2
          clear NE eq
          generalize (el3 ps k).1 = x at *
          generalize (el3 ps k).2.1 = y at *
          generalize (el3 ps k).2.2 = z at *
          go_wp2_with fail
          go_quiet (fail)
          go_wp2
          go_roundw
          case rel => exact ⟨k + 1, by omega, by go_num, at_drewN (unhide H1) _, at_drewN (unhide H2) _, hide (drewN_more (unhide HQ) _)⟩
          case measure => simp [intOf]; omega
        · have NO := hide (show ¬ ps = qs from fun e => eq ((unhide NE) e))
          clear NE
          have NE3 : ¬ ((el3 ps k).1 = (el3 qs k).1 ∧ (el3 ps k).2.1 = (el3 qs k).2.1 ∧ (el3 ps k).2.2 = (el3 qs k).2.2) := fun r => eq (Prod.ext r.1 (Prod.ext r.2.1 r.2.2))
          clear eq
          generalize (el3 ps k).1 = x at *
          generalize (el3 ps k).2.1 = y at *
          generalize (el3 ps k).2.2 = z at *
          generalize (el3 qs k).1 = x' at *
          generalize (el3 qs k).2.1 = y' at *
          generalize (el3 qs k).2.2 = z' at *
          by_cases a1 : x = x'
          · subst a1
            by_cases a2 : y = y'
            · subst a2
              have a3 : z ≠ z' := fun r => NE3 ⟨rfl, rfl, r⟩
              have b3 : (z == z') = false := by simpa using a3
              clear NE3
              go_wp2_with fail
              go_quiet (fail)
              go_wp2
              go_ret
              exact ⟨false, rfl, fun e => absurd e (unhide NO), drewN_more (unhide HQ) _⟩
            · have b2 : (y == y') = false := by simpa using a2
              clear NE3
              go_wp2_with fail
              go_quiet (fail)
              go_wp2
              go_ret
              exact ⟨false, rfl, fun e => absurd e (unhide NO), drewN_more (unhide HQ) _⟩
          · have b1 : (x == x') = false := by simpa using a1
            clear NE3
            go_wp2_with fail
            go_quiet (fail)
            go_wp2
            go_ret
            exact ⟨false, rfl, fun e => absurd e (unhide NO), drewN_more (unhide HQ) _⟩
      · clear h1 h2
        go_wp2
        go_ret
        exact ⟨true, rfl, fun _ => rfl, unhide HQ⟩
  · have NO := hide (show ¬ ps = qs from fun e => ln (by rw [e]))
    have ln2 : ((ps.length : Int) == (qs.length : Int)) = false := by simpa using (show ¬ (ps.length : Int) = (qs.length : Int) by omega)
    have ln3 : ¬ (ps.length : Int) = (qs.length : Int) := by omega
    clear h1 h2
    go_enter Try.func10, Try.ntmps10
    go_wp2
    go_ret
    exact ⟨false, rfl, fun e => absurd e (unhide NO), 0, rfl⟩

set_option maxRecDepth 100000 in
theorem within (w : World) (g n cap : Nat) (xs : List Int) (x : Int) (b : Bool) (hl : xs.length = n) (h20 : n ≤ 1048576) (h : Ints.At w g xs) (hb : Says b (x ∈ xs)) :
    Calls Try.prog 14 #[.slice (some ⟨g, 0, none⟩) n cap, .int .i64 x] w fun e w' => e = .returned (.bool b) ∧ w' = w := by
  go_enter Try.func14, Try.ntmps14
  go_wp2
  go_loop [5] (fun j => ∃ (k : Nat), k ≤ n ∧ j = .int .i64 k ∧ Hid (∀ i, i < k → xs.getD i 0 ≠ x)) (fun j => n - (intOf j).toNat)
  case atStart => exact ⟨0, by omega, rfl, hide (fun i hi => by omega)⟩
  case round =>
    obtain ⟨k, hk, rfl, HG⟩ := hrel
    by_cases t : k < n
    · have e1 := h k (by omega)
      have YES := hide (show xs.getD k 0 = x → b = true from fun e => hb.of (Post.in_iff.2 ⟨k, by omega, e⟩))
      have GO := hide (show xs.getD k 0 ≠ x → ∀ i, i < k + 1 → xs.getD i 0 ≠ x from fun hn i hi => by
        by_cases e : i = k
        · subst e; exact hn
        · exact (unhide HG) i (by omega))
      clear h
      generalize xs.getD k 0 = y at *
      by_cases c1 : y = x
      · obtain rfl : b = true := (unhide YES) c1
        clear YES GO
        subst c1
        go_wp2
        go_ret
        exact ⟨rfl, rfl⟩
      · have G := hide ((unhide GO) c1)
        have c1b : (y == x) = false := by simpa using c1
        clear YES GO
        go_wp2
        go_round
        case rel => exact ⟨k + 1, by omega, by go_num, G⟩
        case measure => simp [intOf]; omega
    · obtain rfl : k = n := by omega
      obtain rfl : b = false := hb.not (fun r => by
        obtain ⟨i, hi, e⟩ := Post.in_iff.1 r
        exact (unhide HG) i (by omega) e)
      clear h hb
      go_wp2
      go_ret
      exact ⟨rfl, rfl⟩

end Go.Proofs.Ytnfopmmkecdmgaa.Same
