/- Contract of the model's DrawSeal: bytes in memory of the call's own, whatever the bytes of the code are. -/
import Derived.Test.YtejbbhjhinkcdaaDraw11
namespace Go.Proofs.Ytejbbhjhinkcdaa.DrawS11
open Go.ChangeShapes Go.WideShapes Go.ChangeAt Go.RowKit SBytes SPut11 SPuts11 Draw11
open Draw (CodeAt Cur Only Moved below once new pick byte)
set_option linter.unusedVariables false
set_option linter.unusedSimpArgs false

/-- Bytes of a call's own, drawn with a cursor. -/
def DrawnB (w0 w : World) (c : Nat) (a : Option Addr) (len cap most : Nat) (e : Ending) (w' : World) : Prop :=
  ∃ (xs : List Int) (g k : Nat), e = .returned (.slice (some ⟨g, 0, none⟩) xs.length k) ∧ ByteH.Own w' w.heap.size g xs.length k xs ∧ xs.length ≤ most ∧ (∀ x ∈ xs, 0 ≤ x ∧ x ≤ 255) ∧ Moved w0 w w' c a len cap

set_option maxRecDepth 100000 in
set_option maxHeartbeats 4000000 in
theorem drawBytes (w0 w : World) (c : Nat) (a : Option Addr) (len cap most : Nat) (hl : len ≤ 1048576) (hm : most ≤ 1000) (hcode : CodeAt w0 a len) (h : Cur w0 w c a len cap) :
    Calls Try.prog 41 #[.pointer (some ⟨c, 0, none⟩), .int .i64 most] w (DrawnB w0 w c a len cap most) := by
  have HC := hide hcode
  have H1 := hide (moved_alloc (moved_start h) #[] 5)
  have hc := h.hi
  have hs := h.bel.size
  have O1 := hide (lit0 w w.heap.size (Nat.le_refl _) rfl)
  have e0 : wrap64 ((most : Int) + 1) = most + 1 := by rw [wrap64]; omega
  clear h hcode
  go_enter Try.func41, Try.ntmps41
  go_wp2_with fail
  refine (below w0 _ c a len cap (most + 1) hl (unhide HC) (unhide H1).1 (by omega)).mono ?_
  rintro e w2 ⟨⟨n, n0, n1, rfl⟩, h2⟩
  have H2 := hide (Moved.trans (unhide H1) h2)
  have O2 := hide (bytes_only (unhide O1) h2.2 (by omega))
  clear h2 H1 O1 e0
  obtain ⟨n, rfl⟩ : ∃ k : Nat, n = k := ⟨n.toNat, by omega⟩
  have n9 : n ≤ most := by omega
  clear n0 n1
  go_wp2
  go_loopw [5, 7] (fun l i wr => ∃ (k : Nat) (xs : List Int) (g cS : Nat), k ≤ n ∧ i = .int .i64 (k : Int) ∧ l = .slice (some ⟨g, 0, none⟩) xs.length cS ∧ xs.length ≤ k ∧ Hid (∀ x ∈ xs, 0 ≤ x ∧ x ≤ 255) ∧ Hid (ByteH.Own wr w.heap.size g xs.length cS xs) ∧ Hid (Moved w0 w wr c a len cap)) (fun _ i _ => n - (intOf i).toNat)
  case atStart => exact ⟨0, [], w.heap.size, 0, by omega, rfl, rfl, by simp, hide (by simp), O2, H2⟩
  case round =>
    clear O2 H2
    obtain ⟨k, xs, g, cS, hk, rfl, rfl, hx, HX, HO, HM⟩ := hrel
    have gl := (unhide HO).lt.1
    have gne : g ≠ c := by omega
    by_cases t : k < n
    · have ki : (k : Int) < n := by omega
      go_wp2_with fail
      refine (byte w0 _ c a len cap hl (unhide HC) (unhide HM).1).mono ?_
      rintro e w5 ⟨⟨x, x0, x1, rfl⟩, h5⟩
      have O5 := hide (bytes_only (unhide HO) h5.2 gne)
      have M5 := hide (Moved.trans (unhide HM) h5)
      have A := hide (show ∀ z ∈ xs ++ [x], 0 ≤ z ∧ z ≤ 255 from fun z hz => by
        rcases List.mem_append.1 hz with h | h
        · exact (unhide HX) z h
        · simp at h; omega)
      clear h5
      have s6 := (unhide M5).2.1
      have O7 := hide (own_alloc (unhide O5) (.cells #[.int .u8 x] 5))
      have M7 := hide (moved_alloc (unhide M5) #[.int .u8 x] 5)
      go_wp2_with (first | (at_builtin; refine wp_catB _ rfl _ _ rfl w.heap.size g xs.length cS 1 xs [x] w5.heap.size 0 1 rfl rfl (unhide O7) rfl (lit_one _ _) (by omega) (by simp; omega) ?_) | go_in)
      intro g8 c8 w8 o8 gr8 _
      have M8 := hide (moved_grown (unhide M7) gr8 hc gl hs)
      have el : (xs ++ [x]).length = xs.length + 1 := by simp
      have O8 := hide o8
      clear gr8 o8
      go_wp2
      go_roundw
      case rel => exact ⟨k + 1, xs ++ [x], g8, c8, by omega, by go_num, by rw [el], by rw [el]; omega, A, hide (by rw [el]; exact unhide O8), M8⟩
      case measure => simp [intOf]; omega
    · go_wp2
      go_ret
      exact ⟨xs, g, cS, rfl, unhide HO, by omega, unhide HX, unhide HM⟩

end Go.Proofs.Ytejbbhjhinkcdaa.DrawS11
