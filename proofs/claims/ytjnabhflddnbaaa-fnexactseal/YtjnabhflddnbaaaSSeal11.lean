/- Bytes: the specification's Seal. -/
import Derived.Test.YtjnabhflddnbaaaSGets11
namespace Go.Proofs.Ytjnabhflddnbaaa.SSeal11
open Go.ChangeShapes Go.WideShapes Go.ChangeAt Go.RowKit SBytes SPut11 SPuts11
open ByteH (Own At)
set_option linter.unusedVariables false
set_option linter.unusedSimpArgs false

theorem chkB_in (xs : List Int) : 0 ≤ chkB xs ∧ chkB xs ≤ 4294967295 := by
  have := chk_in xs xs.length
  unfold chkB
  omega
/-- A sum as four bytes, the lowest first. -/
def four (n : Int) : List Int := [n % 256, n / 256 % 256, n / 65536 % 256, n / 16777216 % 256]
/-- Sealed bytes. -/
def sealB (xs : List Int) : List Int := if xs.length ≤ 9000 then numB xs.length ++ xs ++ four (chkB xs) else []

theorem lit_four (w : World) (a b c d : Int) : AtO (w.alloc (.cells #[.int .u8 a, .int .u8 b, .int .u8 c, .int .u8 d] 5)) w.heap.size 0 [a, b, c, d] := by
  intro i hi
  have : i = 0 ∨ i = 1 ∨ i = 2 ∨ i = 3 := by simp at hi; omega
  rcases this with rfl | rfl | rfl | rfl <;> simp

set_option maxRecDepth 100000 in
set_option maxHeartbeats 4000000 in
theorem sSeal (w : World) (gl cl : Nat) (xs : List Int) (h20 : xs.length ≤ 1048576) (hg : gl < w.heap.size) (hr : AtB w gl xs) :
    Calls Try.prog 27 #[.slice (some ⟨gl, 0, none⟩) xs.length cl] w fun e w' => ∃ g c, e = .returned (.tuple #[.slice (some ⟨g, 0, none⟩) (sealB xs).length c, .bool (decide (xs.length ≤ 9000))]) ∧ Own w' w.heap.size g (sealB xs).length c (sealB xs) ∧ Below w.heap.size w w' := by
  by_cases h0 : xs.length ≤ 9000
  case neg =>
    have e : sealB xs = [] := if_neg h0
    rw [e]
    have O0 := hide (lit0 w w.heap.size (Nat.le_refl _) rfl)
    have B0 := hide (one_more w (.cells #[] 5))
    have h1 : (9000 : Int) < xs.length := by omega
    have D := hide (show decide (xs.length ≤ 9000) = false from by simp; omega)
    rw [unhide D]
    clear e h0 hr
    go_enter Try.func27, Try.ntmps27
    go_wp2
    go_ret2
    exact ⟨_, 0, rfl, unhide O0, unhide B0⟩
  have S := hide (show numB xs.length ++ xs ++ four (chkB xs) = sealB xs from (if_pos h0).symm)
  have D := hide (show decide (xs.length ≤ 9000) = true from by simp; omega)
  rw [unhide D]
  have CI := hide (show 0 ≤ 65536 * (chk xs xs.length).2 + (chk xs xs.length).1 ∧ 65536 * (chk xs xs.length).2 + (chk xs xs.length).1 ≤ 4294967295 from chkB_in xs)
  have R := hide hr
  have HG := hide hg
  have nine := numB_nine (x := xs.length) (by omega)
  have h1 : ¬ (9000 : Int) < xs.length := by omega
  clear hr hg D
  go_enter Try.func27, Try.ntmps27
  go_wp2_with fail
  refine (sCheck _ gl cl xs h20 (unhide R)).mono ?_
  rintro e u ⟨rfl, rfl⟩
  have S1 := hide (show numB xs.length ++ xs ++ four (65536 * (chk xs xs.length).2 + (chk xs xs.length).1) = sealB xs from unhide S)
  clear S
  generalize 65536 * (chk xs xs.length).2 + (chk xs xs.length).1 = n at *
  clear h1
  go_wp2_with fail
  refine (sPutNum _ xs.length (by omega)).mono ?_
  rintro e u1 ⟨g1, c1, rfl, o1, b1⟩
  have O1 := hide o1
  have B1 := hide b1
  have us := b1.size
  have og := o1.lt
  clear o1 b1
  go_wp2_with (first | (at_builtin; refine wp_catB _ rfl _ _ rfl u.heap.size g1 (numB xs.length).length c1 xs.length (numB xs.length) xs gl 0 cl rfl rfl (unhide O1) rfl (AtO.of (fun i hi => ((AtB.below (unhide R) (unhide B1) (unhide HG)) i hi).1)) (by omega) (by omega) ?_) | go_in)
  intro g2 c2 w2 o2 gr2 loc2
  have O2 := hide o2
  have B2 := hide ((unhide B1).grown gr2 (by omega) (fun j hj => by cases hj; exact og.1))
  have og2 := o2.lt
  have us2 := gr2.size
  clear o2 gr2 loc2
  obtain ⟨n0, n1⟩ := unhide CI
  have N := hide (And.intro n0 n1)
  have m9 : (numB xs.length).length + xs.length ≤ 9009 := by omega
  generalize hm : (numB xs.length).length + xs.length = m at *
  have HM := hide hm
  clear hm n0 n1
  go_wp2_with (first | (at_builtin; refine wp_catB _ rfl _ _ rfl u.heap.size g2 m c2 4 (numB xs.length ++ xs) _ w2.heap.size 0 4 rfl rfl (own_alloc (unhide O2) _) (by rfl) (lit_four _ _ _ _ _) (by omega) (by simp; omega) ?_) | go_in)
  intro g3 c3 w3 o3 gr3 loc3
  have O3 := hide o3
  have B3 := hide (((unhide B2).alloc (by omega) (.cells #[.int .u8 (n % 256), .int .u8 (n / 256 % 256), .int .u8 (n / 65536 % 256), .int .u8 (n / 16777216 % 256)] 5)).grown gr3 (by simp; omega) (fun j hj => by cases hj; exact og2.1))
  clear o3 gr3 loc3
  go_wp2
  go_ret2
  have e := unhide S1
  have l : (sealB xs).length = m + 4 := by rw [← e, ← unhide HM]; simp [four]; omega
  refine ⟨g3, c3, by rw [l]; rfl, ?_, unhide B3⟩
  rw [l, ← e]
  have := unhide O3
  simpa [four, List.append_assoc] using this

end Go.Proofs.Ytjnabhflddnbaaa.SSeal11
