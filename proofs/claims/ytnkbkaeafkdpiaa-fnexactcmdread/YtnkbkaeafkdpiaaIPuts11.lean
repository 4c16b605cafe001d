/- Bytes: the program's PutNums: forms appended one behind the other. -/
import Derived.Test.YtnkbkaeafkdpiaaSPuts11
import Derived.Test.YtnkbkaeafkdpiaaVOB
namespace Go.Proofs.Ytnkbkaeafkdpiaa.IPuts11
open Go.ChangeShapes Go.WideShapes Go.ChangeAt Go.RowKit SBytes SPut11 SPuts11
open ByteH (Own At)
set_option linter.unusedVariables false
set_option linter.unusedSimpArgs false

set_option maxRecDepth 100000 in
set_option maxHeartbeats 4000000 in
theorem iForm (w : World) (base g0 c0 n0 : Nat) (p0 : List Int) (x0 : Int) (h0 : 0 ≤ x0) (hx : x0 ≤ 9223372036854775807) (hn : n0 ≤ 100000000) (hb : base ≤ w.heap.size) (ho : Own w base g0 n0 c0 p0) :
    Calls Try.prog 58 #[.slice (some ⟨g0, 0, none⟩) n0 c0, .int .i64 x0] w fun e w' => ∃ g c, e = .returned (.slice (some ⟨g, 0, none⟩) (n0 + (numF x0.toNat).length) c) ∧ Own w' base g (n0 + (numF x0.toNat).length) c (p0 ++ numF x0.toNat) ∧ Below base w w' := by
  have O0 := hide (show Own w base g0 (n0 + ([] : List Int).length) c0 (p0 ++ []) from by simpa using ho)
  have B0 := hide (Below.refl base w)
  have L := hide (numF_nine (x := x0.toNat) (by omega))
  obtain ⟨r, hr⟩ : ∃ r, Hid (numF x0.toNat = r) := ⟨_, rfl⟩
  rw [unhide hr] at L ⊢
  have S0 := hide (show ([] : List Int) ++ numF x0.toNat = r from unhide hr)
  clear hr ho
  go_enter Try.func58, Try.ntmps58
  go_wp2
  go_loopw [0, 1] (fun l a wr => ∃ (x : Int) (p : List Int) (g c n : Nat), a = .int .i64 x ∧ l = .slice (some ⟨g, 0, none⟩) n c ∧ n = n0 + p.length ∧ 0 ≤ x ∧ x ≤ 9223372036854775807 ∧ Hid (p ++ numF x.toNat = r) ∧ Hid (Own wr base g n c (p0 ++ p)) ∧ Hid (Below base w wr)) (fun _ a _ => (intOf a).toNat)
  case atStart => exact ⟨x0, [], g0, c0, n0, rfl, rfl, by simp, h0, hx, S0, O0, B0⟩
  case round =>
    clear O0 B0 S0 hx h0
    obtain ⟨x, p, g, c, n, rfl, rfl, hnp, x1, x2, HR, HO, HB⟩ := hrel
    have bs := (unhide HB).size
    have pl : p.length ≤ 9 := by have a := unhide L; rw [← unhide HR] at a; simp at a; omega
    have nl : n ≤ 100000009 := by omega
    have HN := hide hnp
    have og := (unhide HO).lt
    have HX := hide (And.intro x1 x2)
    clear hnp
    by_cases t : 127 < x
    · have N := hide (show (p ++ [x % 128 + 128]) ++ numF (x / 128).toNat = r from by
        rw [← unhide HR, numF_more (x := x.toNat) (by omega), List.append_assoc]
        have e1 : ((x.toNat % 128 + 128 : Nat) : Int) = x % 128 + 128 := by omega
        have e2 : x.toNat / 128 = (x / 128).toNat := by omega
        rw [e1, e2]; rfl)
      clear HR x1 x2
      go_wp2_with (first | (at_builtin; refine wp_catB _ rfl _ _ rfl base g n c 1 (p0 ++ p) [x % 128 + 128] wr.heap.size 0 1 rfl rfl (own_alloc (unhide HO) _) rfl (lit_one _ _) (by omega) (by simp; omega) ?_) | go_in)
      intro g5 c5 w5 o5 gr5 loc5
      have O5 := hide o5
      have B5 := hide (((unhide HB).alloc (by omega) (.cells #[.int .u8 (x % 128 + 128)] 5)).grown gr5 (by simp; omega) (fun j hj => by cases hj; exact og.1))
      clear o5 gr5 loc5
      go_wp2
      go_roundw
      case rel =>
        have xx := unhide HX
        exact ⟨x / 128, p ++ [x % 128 + 128], g5, c5, n + 1, by simp, rfl, by have := unhide HN; simp; omega, by omega, by omega, N, O5, B5⟩
      case measure =>
        have xx := unhide HX
        simp [intOf]
        omega
    · have N := hide (show p ++ [x] = r from by
        rw [← unhide HR, numF_last (x := x.toNat) (by omega)]
        have e1 : ((x.toNat : Nat) : Int) = x := by omega
        rw [e1])
      clear HR
      go_wp2_with (first | (at_builtin; refine wp_catB _ rfl _ _ rfl base g n c 1 (p0 ++ p) [x] wr.heap.size 0 1 rfl rfl (own_alloc (unhide HO) _) rfl (lit_one _ _) (by omega) (by simp; omega) ?_) | go_in)
      intro g5 c5 w5 o5 gr5 loc5
      have O5 := hide o5
      have B5 := hide (((unhide HB).alloc (by omega) (.cells #[.int .u8 x] 5)).grown gr5 (by simp; omega) (fun j hj => by cases hj; exact og.1))
      clear o5 gr5 loc5
      go_wp2
      go_ret
      have e := unhide N
      have e1 : n0 + r.length = n + 1 := by rw [← e, unhide HN]; simp; omega
      exact ⟨g5, c5, by rw [e1]; rfl, by rw [e1, ← e]; exact unhide O5, unhide B5⟩

set_option maxRecDepth 100000 in
set_option maxHeartbeats 4000000 in
theorem iPutNums (w : World) (gl cl : Nat) (xs : List Int) (h20 : xs.length ≤ 1048576) (hg : gl < w.heap.size) (hr : Ints.At w gl xs) (hi : ∀ i, i < xs.length → xs.getD i 0 ≤ 9223372036854775807) :
    Calls Try.prog 53 #[.slice (some ⟨gl, 0, none⟩) xs.length cl] w fun e w' => ∃ a c, e = .returned (.slice a (numsB xs).length c) ∧ VOB.Ob w' w.heap.size a (numsB xs).length c (numsB xs) ∧ Below w.heap.size w w' := by
  have O0 := hide (lit0 w w.heap.size (Nat.le_refl _) rfl)
  have B0 := hide (one_more w (.cells #[] 5))
  have R := hide hr
  have HI := hide hi
  have HG := hide hg
  obtain ⟨r, hq⟩ : ∃ r, Hid (numsB xs = r) := ⟨_, rfl⟩
  rw [unhide hq]
  clear hr hi hg
  go_enter Try.func53, Try.ntmps53
  go_wp2
  go_loopw [3, 5, 9] (fun l _ a wr => ∃ (k g c n : Nat), a = .int .i64 k ∧ k ≤ xs.length ∧ l = .slice (some ⟨g, 0, none⟩) n c ∧ n ≤ 9 * k ∧ Hid (n = ((xs.take k).flatMap numB).length) ∧ Hid (∀ i, i < k → 0 ≤ xs.getD i 0) ∧ Hid (Own wr w.heap.size g n c ((xs.take k).flatMap numB)) ∧ Hid (Below w.heap.size w wr)) (fun _ _ a _ => xs.length - (intOf a).toNat)
  case atStart => exact ⟨0, w.heap.size, 0, 0, rfl, by omega, rfl, by omega, hide (by simp), hide (fun i h => absurd h (by omega)), hide (by simpa using unhide O0), B0⟩
  case round =>
    clear O0 B0
    obtain ⟨k, g, c, n, rfl, hk, rfl, nk, HN, HP, HO, HB⟩ := hrel
    have bs := (unhide HB).size
    by_cases t : k < xs.length
    · have d := (((unhide R).below (unhide HB) (unhide HG)) k t)
      have NX := hide (flat_next t)
      have HX := hide ((unhide HI) k t)
      have SG := hide (show 0 ≤ xs.getD k 0 → ∀ i, i < k + 1 → 0 ≤ xs.getD i 0 from fun h i hi => by
        by_cases e : i = k
        · subst e; exact h
        · exact (unhide HP) i (by omega))
      have BAD := hide (show xs.getD k 0 < 0 → r = [] from fun h => by rw [← unhide hq]; exact if_neg (fun a => by have := a k t; omega))
      clear HP
      generalize xs.getD k 0 = y at *
      have kx : (k : Int) < xs.length := by omega
      by_cases y0 : y < 0
      · have e := (unhide BAD) y0
        subst e
        have O5 := hide (lit0 wr w.heap.size bs rfl)
        have B5 := hide ((unhide HB).alloc bs (.cells #[] 5))
        clear BAD SG NX HX hq HI R
        go_wp2
        go_ret
        exact ⟨_, 0, rfl, .of (unhide O5), unhide B5⟩
      · have S1 := hide ((unhide SG) (by omega))
        have NB := hide (numB_pos (x := y) (by omega))
        have nine := numB_nine (unhide HX)
        rw [unhide NB] at nine
        have y1 : 0 ≤ y := by omega
        have FM := hide (iForm wr w.heap.size g c n _ y y1 (unhide HX) (by omega) bs (unhide HO))
        clear BAD SG
        go_wp2_with fail
        refine (unhide FM).mono ?_
        rintro e u ⟨g5, c5, rfl, o5, b5⟩
        have O5 := hide o5
        have B5 := hide ((unhide HB).trans b5)
        clear o5 b5 FM HO
        go_wp2
        go_roundw
        case rel => exact ⟨k + 1, g5, c5, n + (numF y.toNat).length, by go_num, by omega, rfl, by omega, hide (by rw [unhide NX, List.length_append, ← unhide HN, unhide NB]), S1, hide (by rw [unhide NX, unhide NB]; exact unhide O5), B5⟩
        case measure => simp [intOf]; omega
    · have e : k = xs.length := by omega
      subst e
      have E := hide (show xs.flatMap numB = r from by rw [← unhide hq]; exact (if_pos (unhide HP)).symm)
      have N := unhide HN
      have O := unhide HO
      rw [List.take_length] at N O
      rw [unhide E] at N O
      have O5 := hide O
      have N5 := hide N
      clear N O HN HO HP
      go_wp2
      go_ret
      have e := unhide N5
      subst e
      exact ⟨_, c, rfl, .of (unhide O5), unhide HB⟩

end Go.Proofs.Ytnkbkaeafkdpiaa.IPuts11
