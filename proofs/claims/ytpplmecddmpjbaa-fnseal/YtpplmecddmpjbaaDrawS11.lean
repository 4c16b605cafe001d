/- Contract of the model's DrawSeal: bytes in memory of the call's own, whatever the bytes of the code are. -/
import Derived.Test.YtpplmecddmpjbaaDraw11
namespace Go.Proofs.Ytpplmecddmpjbaa.DrawS11
open Go.ChangeShapes Go.WideShapes Go.ChangeAt Go.RowKit SBytes SPut11 SPuts11 Draw11
open Draw (CodeAt Cur Only Moved below once new pick byte)
set_option linter.unusedVariables false
set_option linter.unusedSimpArgs false

/-- Bytes of a call's own, drawn with a cursor. -/
def DrawnB (w0 w : World) (c : Nat) (a : Option Addr) (len cap most : Nat) (e : Ending) (w' : World) : Prop :=
  ∃ (xs : List Int) (g k : Nat), e = .returned (.slice (some ⟨g, 0, none⟩) xs.length k) ∧ ByteH.Own w' w.heap.size g xs.length k xs ∧ xs.length ≤ most ∧ (∀ x ∈ xs, 0 ≤ x ∧ x ≤ 255) ∧ Moved w0 w w' c a len cap

set_option maxRecDepth 100000 in
set_option maxHeartbeats 4000000 in
theorem drawBytes (w0 w : World) (c : Nat) (a : Option Addr) (len cap most : Nat) (hl : len ≤ 1048576) (hm : most ≤ 1000) (hcode : CodeAt w0 a len) (h : Cur w0 w c a len cap) :
    Calls Try.prog 29 #[.pointer (some ⟨c, 0, none⟩), .int .i64 most] w (DrawnB w0 w c a len cap most) := by
  have HC := hide hcode
  have H1 := hide (moved_alloc (moved_start h) #[] 5)
  have hc := h.hi
  have hs := h.bel.size
  have O1 := hide (lit0 w w.heap.size (Nat.le_refl _) rfl)
  have e0 : wrap64 ((most : Int) + 1) = most + 1 := by rw [wrap64]; omega
  clear h hcode
  go_enter Try.func29, Try.ntmps29
  go_wp2_with fail
  refine (below w0 _ c a len cap (most + 1) hl (unhide HC) (unhide H1).1 (by omega)).mono ?_
  rintro e w2 ⟨⟨n, n0, n1, rfl⟩, h2⟩
  have H2 := hide (Moved.trans (unhide H1) h2)
  have O2 := hide (bytes_only (unhide O1) h2.2 (by omega))
  clear h2 H1 O1 e0
  obtain ⟨n, rfl⟩ : ∃ k : Nat, n = k := ⟨n.toNat, by omega⟩
  have n9 : n ≤ most := by omega
  clear n0 n1
  go_wp2
  go_loopw [5, 7] (fun l i wr => ∃ (k : Nat) (xs : List Int) (g cS : Nat), k ≤ n ∧ i = .int .i64 (k : Int) ∧ l = .slice (some ⟨g, 0, none⟩) xs.length cS ∧ xs.length ≤ k ∧ Hid (∀ x ∈ xs, 0 ≤ x ∧ x ≤ 255) ∧ Hid (ByteH.Own wr w.heap.size g xs.length cS xs) ∧ Hid (Moved w0 w wr c a len cap)) (fun _ i _ => n - (intOf i).toNat)
  case atStart => exact ⟨0, [], w.heap.size, 0, by omega, rfl, rfl, by simp, hide (by simp), O2, H2⟩
  case round =>
    clear O2 H2
    obtain ⟨k, xs, g, cS, hk, rfl, rfl, hx, HX, HO, HM⟩ := hrel
    have gl := (unhide HO).lt.1
    have gne : g ≠ c := by omega
    by_cases t : k < n
    · have ki : (k : Int) < n := by omega
      go_wp2_with fail
      refine (byte w0 _ c a len cap hl (unhide HC) (unhide HM).1).mono ?_
      rintro e w5 ⟨⟨x, x0, x1, rfl⟩, h5⟩
      have O5 := hide (bytes_only (unhide HO) h5.2 gne)
      have M5 := hide (Moved.trans (unhide HM) h5)
      have A := hide (show ∀ z ∈ xs ++ [x], 0 ≤ z ∧ z ≤ 255 from fun z hz => by
        rcases List.mem_append.1 hz with h | h
        · exact (unhide HX) z h
        · simp at h; omega)
      clear h5
      have s6 := (unhide M5).2.1
      have O7 := hide (own_alloc (unhide O5) (.cells #[.int .u8 x] 5))
      have M7 := hide (moved_alloc (unhide M5) #[.int .u8 x] 5)
      go_wp2_with (first | (at_builtin; refine wp_catB _ rfl _ _ rfl w.heap.size g xs.length cS 1 xs [x] w5.heap.size 0 1 rfl rfl (unhide O7) rfl (lit_one _ _) (by omega) (by simp; omega) ?_) | go_in)
      intro g8 c8 w8 o8 gr8 _
      have M8 := hide (moved_grown (unhide M7) gr8 hc gl hs)
      have el : (xs ++ [x]).length = xs.length + 1 := by simp
      have O8 := hide o8
      clear gr8 o8
      go_wp2
      go_roundw
      case rel => exact ⟨k + 1, xs ++ [x], g8, c8, by omega, by go_num, by rw [el], by rw [el]; omega, A, hide (by rw [el]; exact unhide O8), M8⟩
      case measure => simp [intOf]; omega
    · go_wp2
      go_ret
      exact ⟨xs, g, cS, rfl, unhide HO, by omega, unhide HX, unhide HM⟩

set_option maxRecDepth 100000 in
set_option maxHeartbeats 4000000 in
theorem drawLong (w0 w : World) (c : Nat) (a : Option Addr) (len cap most : Nat) (hl : len ≤ 1048576) (hm : most ≤ 1000) (hcode : CodeAt w0 a len) (h : Cur w0 w c a len cap) :
    Calls Try.prog 23 #[.pointer (some ⟨c, 0, none⟩), .int .i64 most] w (DrawnB w0 w c a len cap 9001) := by
  have HC := hide hcode
  have H1 := hide h
  have hc := h.hi
  have hs := h.bel.size
  clear h hcode
  obtain ⟨i0, hi, hz0, hz1, hz2⟩ := info_parts ByteH.info8
  go_enter Try.func23, Try.ntmps23
  go_wp2_with fail
  refine (drawBytes w0 _ c a len cap most hl hm (unhide HC) (unhide H1)).mono ?_
  rintro e w2 ⟨xs, g, k, rfl, o2, l2, x2, m2⟩
  have O2 := hide o2
  have M2 := hide m2
  have X2 := hide x2
  have gl := o2.lt.1
  clear o2 m2 x2 H1
  go_wp2_with fail
  refine (once w0 _ c a len cap 40 hl (unhide HC) (unhide M2).1 (by omega)).mono ?_
  rintro e w3 ⟨⟨tb, rfl⟩, h3⟩
  have O3 := hide (bytes_only (unhide O2) h3.2 (by omega))
  have M3 := hide (Moved.trans (unhide M2) h3)
  clear h3 O2 M2
  cases tb
  · go_wp2
    go_ret
    exact ⟨xs, g, k, rfl, unhide O3, by omega, unhide X2, unhide M3⟩
  · go_wp2_with fail
    refine (below w0 _ c a len cap 2 hl (unhide HC) (unhide M3).1 (by omega)).mono ?_
    rintro e w6 ⟨⟨y, y0, y1, rfl⟩, h6⟩
    have M6 := hide (Moved.trans (unhide M3) h6)
    have s6 := (Moved.trans (unhide M3) h6).2.1
    clear h6
    obtain ⟨m, hm'⟩ := Int.eq_ofNat_of_zero_le (show (0 : Int) ≤ 9000 + y by omega)
    have m21 : m ≤ 9001 := by omega
    have hm2 : IntKind.i64.wrap (9000 + y) = (m : Int) := by rw [IntKind.wrap_i64]; omega
    go_wp2_with (first | (at_make; refine wpList_make_full _ rfl _ _ 22 rfl w.heap.size 5 i0 (.int .u8 0) 1 Try.underlying22 hi hz0 hz1 .i64 .i64 _ _ m rfl rfl rfl rfl (by rw [hz2]; omega) (by unfold maxLen; omega) s6 ?_) | go_in)
    intro w8 hown hgrow
    have mz := ByteH.made_zeros m
    rw [Nat.mul_one] at mz
    have hown : w8.ownsRow w.heap.size 5 1 (.slice (some ⟨w6.heap.size, 0, none⟩) m m) m ((List.replicate m (0 : Int)).map (Value.int .u8)) := by rw [← mz]; exact hown
    have O8 := hide (show ByteH.Own w8 w.heap.size w6.heap.size m m (List.replicate m 0) from hown)
    have M8 := hide (moved_below (unhide M6) (ByteH.grownBy_below hgrow))
    clear hown hgrow
    go_wp2
    go_ret
    have lr : (List.replicate m (0 : Int)).length = m := by simp
    exact ⟨List.replicate m 0, w6.heap.size, m, by rw [lr]; rfl, by rw [lr]; exact unhide O8, by rw [lr]; exact m21, fun x hx => by have := (List.mem_replicate.1 hx).2; omega, unhide M8⟩

set_option maxRecDepth 100000 in
theorem drawSeal (w : World) (a : Option Addr) (len cap : Nat) (hl : len ≤ 1048576) (hcode : CodeAt w a len) :
    Calls Try.prog 12 #[.slice a len cap] w fun e w' => ∃ (xs : List Int) (g c : Nat), e = .returned (.slice (some ⟨g, 0, none⟩) xs.length c) ∧ ByteH.Own w' w.heap.size g xs.length c xs ∧ xs.length ≤ 9001 ∧ (∀ x ∈ xs, 0 ≤ x ∧ x ≤ 255) ∧ Below w.heap.size w w' := by
  have HC := hide hcode
  clear hcode
  go_enter Try.func12, Try.ntmps12
  go_wp2_with fail
  refine (new w a len cap hl (unhide HC)).mono ?_
  rintro e w1 ⟨c, rfl, h1⟩
  have H1 := hide h1
  have hs := h1.bel.size
  clear h1
  go_wp2_with fail
  refine (size _ a len cap 60 hl (by omega) (by omega)).mono ?_
  rintro e w2 ⟨m, m0, m1, rfl, rfl⟩
  obtain ⟨m, rfl⟩ : ∃ k : Nat, m = k := ⟨m.toNat, by omega⟩
  go_wp2_with fail
  refine (drawLong w _ c a len cap m hl (by omega) (unhide HC) (unhide H1)).mono ?_
  rintro e w3 ⟨xs, g, k, rfl, o2, l2, x2, m2⟩
  have O2 := hide (o2.mono hs)
  have M2 := hide m2
  have X2 := hide x2
  clear o2 m2 x2
  go_wp2
  go_ret
  exact ⟨xs, g, k, rfl, unhide O2, l2, unhide X2, (unhide M2).1.bel⟩

end Go.Proofs.Ytpplmecddmpjbaa.DrawS11
