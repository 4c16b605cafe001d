/- Bytes: the specification's GetNums. -/
import Derived.Test.YtnkbkaeafkdpiaaSPuts11
namespace Go.Proofs.Ytnkbkaeafkdpiaa.SGets11
open Go.ChangeShapes Go.WideShapes Go.ChangeAt Go.RowKit SBytes SPut11 SPuts11
set_option linter.unusedVariables false
set_option linter.unusedSimpArgs false

/-- Whether a number lies between two others. -/
theorem l1In_yes (w : World) (x lo hi : Int) (h0 : lo ≤ x) (h1 : x ≤ hi) : Calls Try.prog 34 #[.int .i64 x, .int .i64 lo, .int .i64 hi] w fun e w' => e = .returned (.bool true) ∧ w' = w := by
  go_enter Try.func34, Try.ntmps34
  go_wp2
  go_ret
  exact ⟨rfl, rfl⟩

theorem l1In_no (w : World) (x lo hi : Int) (h : ¬ (lo ≤ x ∧ x ≤ hi)) : Calls Try.prog 34 #[.int .i64 x, .int .i64 lo, .int .i64 hi] w fun e w' => e = .returned (.bool false) ∧ w' = w := by
  by_cases h0 : lo ≤ x
  · have h1 : ¬ x ≤ hi := fun r => h ⟨h0, r⟩
    clear h
    go_enter Try.func34, Try.ntmps34
    go_wp2
    go_ret
    exact ⟨rfl, rfl⟩
  · clear h
    go_enter Try.func34, Try.ntmps34
    go_wp2
    go_ret
    exact ⟨rfl, rfl⟩

set_option maxRecDepth 100000 in
set_option maxHeartbeats 4000000 in
theorem sGetNums (w : World) (gl cl : Nat) (xs : List Int) (p0 many : Int) (h20 : xs.length ≤ 1048576) (hg : gl < w.heap.size) (hr : AtB w gl xs) :
    Calls Try.prog 40 #[.slice (some ⟨gl, 0, none⟩) xs.length cl, .int .i64 p0, .int .i64 many] w fun e w' => ∃ g c, e = .returned (.tuple #[.slice (some ⟨g, 0, none⟩) (getsN xs p0 many).1.length c, .int .i64 (getsN xs p0 many).2.1, .bool (getsN xs p0 many).2.2]) ∧ Ints.Own w' w.heap.size g (getsN xs p0 many).1.length c (getsN xs p0 many).1 ∧ Below w.heap.size w w' := by
  have O0 := hide (lit0I w w.heap.size (Nat.le_refl _) rfl)
  have B0 := hide (one_more w (.cells #[] 3))
  have R := hide hr
  have HG := hide hg
  clear hr hg
  by_cases m0 : 0 ≤ many ∧ many ≤ 2000
  case neg =>
    have e : getsN xs p0 many = ([], 0, false) := if_neg (fun h => m0 h.1)
    rw [e]
    have M := hide m0
    clear e m0
    go_enter Try.func40, Try.ntmps40
    go_wp2_with fail
    refine (l1In_no _ _ _ _ (unhide M)).mono ?_
    rintro e u ⟨rfl, rfl⟩
    go_wp2
    go_ret3
    exact ⟨_, 0, rfl, unhide O0, unhide B0⟩
  by_cases q0 : 0 ≤ p0 ∧ p0 ≤ xs.length
  case neg =>
    have e : getsN xs p0 many = ([], 0, false) := if_neg (fun h => q0 h.2)
    rw [e]
    have M := hide m0
    have Q := hide q0
    clear e m0 q0
    go_enter Try.func40, Try.ntmps40
    go_wp2_with fail
    refine (l1In_yes _ _ _ _ (unhide M).1 (unhide M).2).mono ?_
    rintro e u ⟨rfl, rfl⟩
    go_wp2_with fail
    refine (l1In_no _ _ _ _ (unhide Q)).mono ?_
    rintro e u ⟨rfl, rfl⟩
    go_wp2
    go_ret3
    exact ⟨_, 0, rfl, unhide O0, unhide B0⟩
  obtain ⟨n, rfl⟩ : ∃ n : Nat, many = n := ⟨many.toNat, by omega⟩
  have E0 := hide (show getsN xs p0 n = gets xs n p0 [] from by unfold getsN; rw [if_pos ⟨m0, q0⟩]; simp)
  have n2 : n ≤ 2000 := by omega
  have M := hide m0
  have Q := hide q0
  clear m0 q0
  generalize getsN xs p0 n = r at *
  obtain ⟨r0, r1, r2⟩ := r
  go_enter Try.func40, Try.ntmps40
  go_wp2_with fail
  refine (l1In_yes _ _ _ _ (unhide M).1 (unhide M).2).mono ?_
  rintro e u ⟨rfl, rfl⟩
  go_wp2_with fail
  refine (l1In_yes _ _ _ _ (unhide Q).1 (unhide Q).2).mono ?_
  rintro e u ⟨rfl, rfl⟩
  go_wp2
  clear M Q
  go_loopw [1, 9, 10] (fun a l i wr => ∃ (p : Int) (q : List Int) (g c k : Nat), a = .int .i64 p ∧ l = .slice (some ⟨g, 0, none⟩) q.length c ∧ i = .int .i64 k ∧ k ≤ n ∧ q.length ≤ k ∧ Hid ((r0, r1, r2) = gets xs (n - k) p q) ∧ Hid (Ints.Own wr w.heap.size g q.length c q) ∧ Hid (Below w.heap.size w wr)) (fun _ _ i _ => n - (intOf i).toNat)
  case atStart => exact ⟨p0, [], w.heap.size, 0, 0, rfl, rfl, rfl, by omega, by simp, E0, O0, B0⟩
  case round =>
    clear O0 B0 E0
    obtain ⟨p, q, g, c, k, rfl, rfl, rfl, hk, ql, HE, HO, HB⟩ := hrel
    have bs := (unhide HB).size
    have og := (unhide HO).lt
    by_cases t : k < n
    · have NX := hide (show (r0, r1, r2) = if (getN xs p).2.2 = true then gets xs (n - (k + 1)) (getN xs p).2.1 (q ++ [(getN xs p).1]) else ([], 0, false) from by
        rw [unhide HE, show n - k = (n - (k + 1)) + 1 by omega]
        rfl)
      have kn : (k : Int) < n := by omega
      clear HE
      go_wp2_with fail
      refine (sGetNum _ gl cl xs p h20 (AtB.below (unhide R) (unhide HB) (unhide HG))).mono ?_
      rintro e u ⟨rfl, rfl⟩
      generalize getN xs p = y at *
      obtain ⟨y0, y1, y2⟩ := y
      cases y2 with
      | false =>
        have F := unhide NX
        rw [if_neg (by simp)] at F
        injection F with F0 F
        injection F with F1 F2
        subst F0 F1 F2
        have O5 := hide (lit0I u w.heap.size bs rfl)
        have B5 := hide ((unhide HB).alloc bs (.cells #[] 3))
        clear NX
        go_wp2
        go_ret3
        exact ⟨_, 0, rfl, unhide O5, unhide B5⟩
      | true =>
        have N1 := hide (show (r0, r1, r2) = gets xs (n - (k + 1)) y1 (q ++ [y0]) from by rw [unhide NX, if_pos rfl])
        clear NX
        go_wp2_with (first | (at_builtin; refine wp_appI _ rfl _ _ rfl w.heap.size g q.length c q u.heap.size y0 rfl rfl (own_allocI (unhide HO) _) (by simp) (by omega) (by simp; omega) ?_) | go_in)
        intro g5 c5 w5 o5 gr5 loc5
        have O5 := hide o5
        have B5 := hide (((unhide HB).alloc (by omega) (.cells #[.int .i64 y0] 3)).grown gr5 (by simp; omega) (fun j hj => by cases hj; exact og.1))
        clear o5 gr5 loc5
        go_wp2
        go_roundw
        case rel => exact ⟨y1, q ++ [y0], g5, c5, k + 1, rfl, by rw [show (q ++ [y0]).length = q.length + 1 by simp], by go_num, by omega, by simp; omega, N1, hide (by rw [show (q ++ [y0]).length = q.length + 1 by simp]; exact unhide O5), B5⟩
        case measure => simp [intOf]; omega
    · have e : k = n := by omega
      subst e
      have F := unhide HE
      rw [Nat.sub_self] at F
      simp only [gets] at F
      injection F with F0 F
      injection F with F1 F2
      subst F0 F1 F2
      clear HE
      go_wp2
      go_ret3
      exact ⟨g, c, rfl, unhide HO, unhide HB⟩

end Go.Proofs.Ytnkbkaeafkdpiaa.SGets11
