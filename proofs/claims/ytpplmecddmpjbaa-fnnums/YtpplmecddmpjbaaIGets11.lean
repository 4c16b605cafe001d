/- Bytes: the program's GetNums. -/
import Derived.Test.YtpplmecddmpjbaaIRd11
import Derived.Test.YtpplmecddmpjbaaSGets11
import Derived.Test.YtpplmecddmpjbaaVOI
namespace Go.Proofs.Ytpplmecddmpjbaa.IGets11
open Go.ChangeShapes Go.WideShapes Go.ChangeAt Go.RowKit SBytes SPut11 SPuts11 IRd11
set_option linter.unusedVariables false
set_option linter.unusedSimpArgs false

theorem getN_next (xs : List Int) (x : Int) (h20 : xs.length ≤ 1048576) (h : (getN xs x).2.2 = true) : (getN xs x).2.1 ≤ 9223372036854775807 := by
  have : ∀ f k, (getF xs x.toNat f k).2.2 = true → (getF xs x.toNat f k).2.1 ≤ xs.length := by
    intro f
    induction f with
    | zero => intro k; simp [getF]
    | succ f ih =>
      intro k h
      simp only [getF] at h ⊢
      by_cases a : x.toNat + k < xs.length
      · rw [if_pos a] at h ⊢
        by_cases b : xs.getD (x.toNat + k) 0 < 128
        · rw [if_pos b] at h ⊢
          by_cases c : xs.getD (x.toNat + k) 0 = 0 ∧ 0 < k
          · rw [if_pos c] at h; simp at h
          · rw [if_neg c]; simp only; omega
        · rw [if_neg b] at h ⊢
          exact ih (k + 1) h
      · rw [if_neg a] at h; simp at h
  unfold getN at h ⊢
  by_cases a : x < 0 ∨ (xs.length : Int) ≤ x
  · rw [if_pos a]; simp
  · rw [if_neg a] at h ⊢
    have := this 9 0 h
    omega

theorem cell_app {u w5 : World} {o : Obj} {g : Nat} (gr : (u.alloc o).grownBy w5 (some g)) {b : Nat} (i : Nat) (hb : b < u.heap.size) (hg : b ≠ g) : w5.cell? ⟨b, i, none⟩ = u.cell? ⟨b, i, none⟩ :=
  World.cell?_of_block (w := u) ((gr.block b (by simp; omega) (by simpa using hg)).trans (Below.heap_alloc u _ _ hb))

set_option maxRecDepth 100000 in
set_option maxHeartbeats 4000000 in
theorem iGetNums (w : World) (gl cl : Nat) (xs : List Int) (p0 many : Int) (h20 : xs.length ≤ 1048576) (hc : xs.length ≤ cl) (hg : gl < w.heap.size) (hr : AtB w gl xs) :
    Calls Try.prog 9 #[.slice (some ⟨gl, 0, none⟩) xs.length cl, .int .i64 p0, .int .i64 many] w fun e w' => ∃ a c, e = .returned (.tuple #[.slice a (getsN xs p0 many).1.length c, .int .i64 (getsN xs p0 many).2.1, .bool (getsN xs p0 many).2.2]) ∧ VOI.Ob w' w.heap.size a (getsN xs p0 many).1.length c (getsN xs p0 many).1 ∧ Below w.heap.size w w' := by
  have B0 := hide (one_more w (.cells #[.int .i64 p0] 3))
  by_cases m0 : (0 ≤ many ∧ many ≤ 2000) ∧ 0 ≤ p0 ∧ p0 ≤ xs.length
  case neg =>
    have e : getsN xs p0 many = ([], 0, false) := if_neg m0
    rw [e]
    have O1 := hide (lit0I (w.alloc (.cells #[.int .i64 p0] 3)) w.heap.size (g := w.heap.size + 1) (by simp) (by simp))
    have B1 := hide ((unhide B0).alloc (by simp) (.cells #[] 3))
    clear e hr
    by_cases t1 : p0 < 0
    · clear m0
      go_enter Try.func9, Try.ntmps9
      go_wp2
      go_ret3
      exact ⟨_, 0, rfl, .of (unhide O1), unhide B1⟩
    by_cases t2 : (xs.length : Int) < p0
    · clear m0
      go_enter Try.func9, Try.ntmps9
      go_wp2
      go_ret3
      exact ⟨_, 0, rfl, .of (unhide O1), unhide B1⟩
    by_cases t3 : many < 0
    · clear m0
      go_enter Try.func9, Try.ntmps9
      go_wp2
      go_ret3
      exact ⟨_, 0, rfl, .of (unhide O1), unhide B1⟩
    have t4 : 2000 < many := by omega
    clear m0
    go_enter Try.func9, Try.ntmps9
    go_wp2
    go_ret3
    exact ⟨_, 0, rfl, .of (unhide O1), unhide B1⟩
  obtain ⟨⟨m1, m2⟩, q1, q2⟩ := m0
  obtain ⟨n, rfl⟩ : ∃ n : Nat, many = n := ⟨many.toNat, by omega⟩
  have E0 := hide (show getsN xs p0 n = gets xs n p0 [] from by unfold getsN; rw [if_pos ⟨⟨m1, m2⟩, q1, q2⟩]; simp)
  have n2 : n ≤ 2000 := by omega
  have R := hide hr
  have HG := hide hg
  have X0 := hide (show Pl (((w.alloc (.cells #[.int .i64 p0] 3)).alloc (.cells #[] 3)).alloc (.cells #[.slice (some ⟨gl, 0, none⟩) xs.length cl, .pointer (some ⟨w.heap.size, 0, none⟩)] 48)) w.heap.size w.heap.size p0 from own_allocI (own_allocI (pl_box w w.heap.size p0 (Nat.le_refl _) rfl) _) _)
  have O0 := hide (own_allocI (lit0I (w.alloc (.cells #[.int .i64 p0] 3)) w.heap.size (g := w.heap.size + 1) (by simp) (by simp)) (.cells #[.slice (some ⟨gl, 0, none⟩) xs.length cl, .pointer (some ⟨w.heap.size, 0, none⟩)] 48))
  have B1 := hide ((((unhide B0).alloc (by simp) (.cells #[] 3))).alloc (by simp; omega) (.cells #[.slice (some ⟨gl, 0, none⟩) xs.length cl, .pointer (some ⟨w.heap.size, 0, none⟩)] 48))
  have C0 := hide (rd_box ((w.alloc (.cells #[.int .i64 p0] 3)).alloc (.cells #[] 3)) (.slice (some ⟨gl, 0, none⟩) xs.length cl) (.pointer (some ⟨w.heap.size, 0, none⟩)))
  rw [show ((w.alloc (.cells #[.int .i64 p0] 3)).alloc (.cells #[] 3)).heap.size = w.heap.size + 2 by simp] at C0
  have S0 := hide (show w.heap.size + 3 ≤ (((w.alloc (.cells #[.int .i64 p0] 3)).alloc (.cells #[] 3)).alloc (.cells #[.slice (some ⟨gl, 0, none⟩) xs.length cl, .pointer (some ⟨w.heap.size, 0, none⟩)] 48)).heap.size from by simp)
  clear hr B0
  generalize getsN xs p0 n = r at *
  obtain ⟨r0, r1, r2⟩ := r
  go_enter Try.func9, Try.ntmps9
  go_wp2
  go_loopw [9, 11, 12, 34] (fun l _ _ i wr => ∃ (p : Int) (q : List Int) (g c k : Nat), l = .slice (some ⟨g, 0, none⟩) q.length c ∧ i = .int .i64 k ∧ k ≤ n ∧ q.length ≤ k ∧ p ≤ 9223372036854775807 ∧ (g = w.heap.size + 1 ∨ w.heap.size + 3 ≤ g) ∧ Hid ((r0, r1, r2) = gets xs (n - k) p q) ∧ Hid (Pl wr w.heap.size w.heap.size p) ∧ Hid (Ints.Own wr w.heap.size g q.length c q) ∧ Hid (Below w.heap.size w wr) ∧ Hid (wr.cell? ⟨w.heap.size + 2, 0, none⟩ = some (.slice (some ⟨gl, 0, none⟩) xs.length cl) ∧ wr.cell? ⟨w.heap.size + 2, 1, none⟩ = some (.pointer (some ⟨w.heap.size, 0, none⟩))) ∧ w.heap.size + 3 ≤ wr.heap.size) (fun _ _ _ i _ => n - (intOf i).toNat)
  case atStart => exact ⟨p0, [], w.heap.size + 1, 0, 0, rfl, rfl, by omega, by simp, by omega, .inl rfl, E0, X0, O0, B1, C0, unhide S0⟩
  case round =>
    clear X0 O0 B1 C0 S0 E0
    obtain ⟨p, q, g, c, k, rfl, rfl, hk, ql, pm, gg, HE, HP, HO, HB, HC, HS⟩ := hrel
    obtain ⟨c0, c1⟩ := unhide HC
    have og := (unhide HO).lt
    have pc := (unhide HP).cell
    by_cases t : k < n
    · have NX := hide (show (r0, r1, r2) = if (getN xs p).2.2 = true then gets xs (n - (k + 1)) (getN xs p).2.1 (q ++ [(getN xs p).1]) else ([], 0, false) from by
        rw [unhide HE, show n - k = (n - (k + 1)) + 1 by omega]
        rfl)
      have IN := hide (iNum wr gl cl w.heap.size w.heap.size xs p pm h20 hc (unhide HG) (AtB.below (unhide R) (unhide HB) (unhide HG)) (unhide HP))
      have GX := hide (getN_next xs p h20)
      have kn : (k : Int) < n := by omega
      clear HE pc
      generalize getN xs p = y at *
      obtain ⟨y0, y1, y2⟩ := y
      go_wp2_with fail
      refine (unhide IN).mono ?_
      rintro e u ⟨v, s, rfl, hv, p1, g1⟩
      have us := g1.size
      have B1 := hide ((unhide HB).grown g1 (by omega) (fun j hj => by cases hj; exact Nat.le_refl _))
      have P1 := hide p1
      have O1 := hide ((unhide HO).kept g1 (by simp; omega))
      have d0 := (cell_grown g1 0 (g := w.heap.size + 2) (by omega) (by omega)).trans c0
      have d1 := (cell_grown g1 1 (g := w.heap.size + 2) (by omega) (by omega)).trans c1
      clear p1 g1 IN HP HO HB HC c0 c1
      cases y2 with
      | false =>
        have F := unhide NX
        rw [if_neg (by simp)] at F
        injection F with F0 F
        injection F with F1 F2
        subst F0 F1 F2
        have O5 := hide (lit0I u w.heap.size (by omega) rfl)
        have B5 := hide ((unhide B1).alloc (by omega) (.cells #[] 3))
        clear NX hv GX
        go_wp2
        go_ret3
        exact ⟨_, 0, rfl, .of (unhide O5), unhide B5⟩
      | true =>
        obtain ⟨rfl, rfl⟩ := hv rfl
        have gx := (unhide GX) rfl
        have N1 := hide (show (r0, r1, r2) = gets xs (n - (k + 1)) s (q ++ [v]) from by rw [unhide NX, if_pos rfl])
        have D := hide (And.intro d0 d1)
        clear NX GX hv d0 d1
        go_wp2_with (first | (at_builtin; refine wp_appI _ rfl _ _ rfl w.heap.size g q.length c q u.heap.size v rfl rfl (own_allocI (unhide O1) _) (by simp) (by omega) (by simp; omega) ?_) | go_in)
        intro g5 c5 w5 o5 gr5 loc5
        have O5 := hide o5
        have B5 := hide (((unhide B1).alloc (by omega) (.cells #[.int .i64 v] 3)).grown gr5 (by simp; omega) (fun j hj => by cases hj; exact og.1))
        have P5 := hide ((own_allocI (unhide P1) (.cells #[.int .i64 v] 3)).kept gr5 (by simp; omega))
        have ws : u.heap.size + 1 ≤ w5.heap.size := by have := gr5.size; simpa using this
        have D5 := hide (And.intro ((cell_app gr5 0 (b := w.heap.size + 2) (by omega) (by omega)).trans (unhide D).1) ((cell_app gr5 1 (b := w.heap.size + 2) (by omega) (by omega)).trans (unhide D).2))
        have l5 : g5 = w.heap.size + 1 ∨ w.heap.size + 3 ≤ g5 := by
          rcases loc5 with h | h
          · omega
          · first | omega | (simp at h; omega)
        clear o5 gr5 loc5
        go_wp2
        go_roundw
        case rel => exact ⟨s, q ++ [v], g5, c5, k + 1, by rw [show (q ++ [v]).length = q.length + 1 by simp], by go_num, by omega, by simp; omega, gx, l5, N1, P5, hide (by rw [show (q ++ [v]).length = q.length + 1 by simp]; exact unhide O5), B5, D5, by omega⟩
        case measure => simp [intOf]; omega
    · have e : k = n := by omega
      subst e
      have F := unhide HE
      rw [Nat.sub_self] at F
      simp only [gets] at F
      injection F with F0 F
      injection F with F1 F2
      subst F0 F1 F2
      clear HE
      go_wp2
      go_region
      go_wp2
      go_ret3
      exact ⟨_, c, rfl, .of (unhide HO), (unhide HB).drew⟩

end Go.Proofs.Ytpplmecddmpjbaa.IGets11
