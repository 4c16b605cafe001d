/- Contracts of two helpers of the laws of shares: two equal lists are told the same, and a number that is not in a list is told not to be within it; and, of the order, that no number stands in it twice. -/
import Derived.Test.YtfoollmmendkiaaOrder
namespace Go.Proofs.Ytfoollmmendkiaa.Helps
open Go.ChangeShapes Go.WideShapes Go.ChangeAt Go.RowKit Ints Weigh Quota Order
set_option linter.unusedVariables false
set_option linter.unusedSimpArgs false

set_option maxRecDepth 100000 in
theorem sameInts (w : World) (g1 g2 n c1 c2 : Nat) (xs : List Int) (hl : xs.length = n) (h20 : n ≤ 1048576) (h1 : At w g1 xs) (h2 : At w g2 xs) :
    Calls Try.prog 17 #[.slice (some ⟨g1, 0, none⟩) n c1, .slice (some ⟨g2, 0, none⟩) n c2] w fun e w' => e = .returned (.bool true) ∧ Below w.heap.size w w' := by
  go_enter Try.func17, Try.ntmps17
  go_wp2
  go_loopw [5] (fun i wr => ∃ (k : Nat), k ≤ n ∧ i = .int .i64 k ∧ At wr g1 xs ∧ At wr g2 xs ∧ Below w.heap.size w wr) (fun i _ => n - (intOf i).toNat)
  case atStart => exact ⟨0, by omega, rfl, h1, h2, Below.refl _ _⟩
  case round =>
    clear h1 h2
    obtain ⟨k, hk, rfl, h1, h2, hb⟩ := hrel
    by_cases t : k < n
    · have e1 := h1 k (by omega)
      have e2 := h2 k (by omega)
      have H1 := hide h1
      have H2 := hide h2
      have HB := hide hb
      clear h1 h2 hb
      generalize xs.getD k 0 = z at *
      go_wp2
      go_region
      go_wp2
      go_roundw
      case rel => exact ⟨k + 1, by omega, by go_num, unhide H1, unhide H2, (unhide HB).drew⟩
      case measure => simp [intOf]; omega
    · have HB := hide hb
      clear h1 h2 hb
      go_wp2
      go_ret
      exact ⟨rfl, unhide HB⟩

set_option maxRecDepth 100000 in
theorem within (w : World) (g n cap : Nat) (x : Int) (xs : List Int) (hl : xs.length = n) (h20 : n ≤ 1048576) (h : At w g xs) (hx : ∀ i, i < n → ¬ xs.getD i 0 = x) :
    Calls Try.prog 18 #[.slice (some ⟨g, 0, none⟩) n cap, .int .i64 x] w fun e w' => e = .returned (.bool false) ∧ w' = w := by
  go_enter Try.func18, Try.ntmps18
  go_wp2
  go_loop [5] (fun i => ∃ (k : Nat), k ≤ n ∧ i = .int .i64 k) (fun i => n - (intOf i).toNat)
  case atStart => exact ⟨0, by omega, rfl⟩
  case round =>
    obtain ⟨k, hk, rfl⟩ := hrel
    by_cases t : k < n
    · have e1 := h k (by omega)
      have e2 := hx k t
      clear h hx
      generalize xs.getD k 0 = z at *
      have eb : (z == x) = false := by simpa using e2
      go_wp2
      go_round
      case rel => exact ⟨k + 1, by omega, by go_num⟩
      case measure => simp [intOf]; omega
    · clear h hx
      go_wp2
      go_ret
      exact ⟨rfl, rfl⟩

theorem order_nodup {t : Int} {xs : List Int} {n : Nat} {L : List Nat} (h : IsOrder t xs n L) : L.Nodup := h.1.nodup_iff.2 List.nodup_range

theorem order_inj {t : Int} {xs : List Int} {n : Nat} {L : List Nat} (h : IsOrder t xs n L) (i j : Nat) (hi : i < n) (hj : j < n) (hij : i < j) : L.getD i 0 ≠ L.getD j 0 := by
  have hl := h.len
  have := List.pairwise_iff_getElem.1 (order_nodup h) i j (by omega) (by omega) hij
  rw [List.getD_eq_getElem?_getD, List.getD_eq_getElem?_getD, List.getElem?_eq_getElem (by omega), List.getElem?_eq_getElem (by omega)]
  exact this

theorem order_ahead {t : Int} {xs : List Int} {n : Nat} {L : List Nat} (h : IsOrder t xs n L) (i j : Nat) (hj : j < n) (hij : i < j) : Ahead t xs (L.getD i 0) (L.getD j 0) := by
  have hl := h.len
  have := List.pairwise_iff_getElem.1 h.2 i j (by omega) (by omega) hij
  rw [List.getD_eq_getElem?_getD, List.getD_eq_getElem?_getD, List.getElem?_eq_getElem (by omega), List.getElem?_eq_getElem (by omega)]
  exact this

end Go.Proofs.Ytfoollmmendkiaa.Helps
