/- Bytes: the specification's Unseal. -/
import Derived.Test.YtjnabhflddnbaabSPut11
import Derived.Deep.RegionHeld3
namespace Go.Proofs.Ytjnabhflddnbaab.SUnseal11
open Go.ChangeShapes Go.WideShapes Go.ChangeAt Go.RowKit SBytes SPut11
open ByteH (Own At)
set_option linter.unusedVariables false
set_option linter.unusedSimpArgs false

theorem w64 (x : Int) (h0 : 0 ≤ x) (h1 : x ≤ 9223372036854775807) : IntKind.i64.wrap x = x := by
  rw [IntKind.wrap_i64]
  omega

/-- The bytes of a list from a place on. -/
def piece (xs : List Int) (f n : Nat) : List Int := (xs.drop f).take n
theorem piece_len {xs : List Int} {f n : Nat} (h : f + n ≤ xs.length) : (piece xs f n).length = n := by simp [piece]; omega
theorem piece_get {xs : List Int} {f n i : Nat} (h : i < n) : (piece xs f n).getD i 0 = xs.getD (f + i) 0 := by simp [piece, List.getD, h]

/-- Four bytes as a number, the lowest first. -/
def fourN (xs : List Int) (f : Nat) : Int := xs.getD f 0 + xs.getD (f + 1) 0 * 256 + xs.getD (f + 2) 0 * 65536 + xs.getD (f + 3) 0 * 16777216

/-- What Unseal answers. -/
def unsealN (xs : List Int) (p : Int) : List Int × Int × Int :=
  if (getN xs p).2.2 = false ∨ 9000 < (getN xs p).1 then ([], 0, 1)
  else if (xs.length : Int) - (getN xs p).2.1 < (getN xs p).1 + 4 then ([], 0, 2)
  else if chkB (piece xs (getN xs p).2.1.toNat (getN xs p).1.toNat) = fourN xs ((getN xs p).2.1.toNat + (getN xs p).1.toNat) then (piece xs (getN xs p).2.1.toNat (getN xs p).1.toNat, (getN xs p).2.1 + (getN xs p).1 + 4, 0)
  else ([], 0, 3)

theorem getF_in (xs : List Int) (q : Nat) : ∀ f k, (getF xs q f k).2.2 = true → 0 ≤ (getF xs q f k).1 ∧ 0 ≤ (getF xs q f k).2.1 ∧ (getF xs q f k).2.1 ≤ xs.length
  | 0, k => by simp [getF]
  | f + 1, k => by
    intro h
    simp only [getF] at h ⊢
    by_cases a : q + k < xs.length
    · rw [if_pos a] at h ⊢
      by_cases b : xs.getD (q + k) 0 < 128
      · rw [if_pos b] at h ⊢
        by_cases c : xs.getD (q + k) 0 = 0 ∧ 0 < k
        · rw [if_pos c] at h; simp at h
        · rw [if_neg c]
          exact ⟨(val_in xs q (k + 1)).1, by simp only; omega, by simp only; omega⟩
      · rw [if_neg b] at h ⊢
        exact getF_in xs q f (k + 1) h
    · rw [if_neg a] at h; simp at h

theorem getN_in (xs : List Int) (p : Int) (h : (getN xs p).2.2 = true) : 0 ≤ (getN xs p).1 ∧ 0 ≤ (getN xs p).2.1 ∧ (getN xs p).2.1 ≤ xs.length := by
  unfold getN at h ⊢
  by_cases a : p < 0 ∨ (xs.length : Int) ≤ p
  · rw [if_pos a] at h; simp at h
  · rw [if_neg a] at h ⊢
    exact getF_in xs _ 9 0 h

set_option maxRecDepth 100000 in
set_option maxHeartbeats 4000000 in
theorem sUnseal (w : World) (gl cl : Nat) (xs : List Int) (p0 : Int) (h20 : xs.length ≤ 1048576) (hc : xs.length ≤ cl) (hg : gl < w.heap.size) (hr : AtB w gl xs) :
    Calls Try.prog 4 #[.slice (some ⟨gl, 0, none⟩) xs.length cl, .int .i64 p0] w fun e w' => ∃ g c, e = .returned (.tuple #[.slice (some ⟨g, 0, none⟩) (unsealN xs p0).1.length c, .int .i64 (unsealN xs p0).2.1, .int .i64 (unsealN xs p0).2.2]) ∧ Own w' w.heap.size g (unsealN xs p0).1.length c (unsealN xs p0).1 ∧ Below w.heap.size w w' := by
  have O0 := hide (lit0 w w.heap.size (Nat.le_refl _) rfl)
  have B0 := hide (one_more w (.cells #[] 5))
  have R := hide hr
  have HG := hide hg
  have GI := hide (getN_in xs p0)
  have SG := hide (sGetNum w gl cl xs p0 h20 hr)
  obtain ⟨r, hq⟩ : ∃ r, Hid (unsealN xs p0 = r) := ⟨_, rfl⟩
  rw [unhide hq]
  unfold unsealN at hq
  clear hr hg
  generalize getN xs p0 = y at *
  obtain ⟨n, f, ok⟩ := y
  cases ok with
  | false =>
    have e := unhide hq
    rw [if_pos (.inl rfl)] at e
    subst e
    clear hq GI
    go_enter Try.func4, Try.ntmps4
    go_wp2_with fail
    refine (unhide SG).mono ?_
    rintro e u ⟨rfl, rfl⟩
    go_wp2
    go_ret3
    exact ⟨_, 0, rfl, unhide O0, unhide B0⟩
  | true =>
    obtain ⟨g0, g1, g2⟩ := (unhide GI) rfl
    simp only at g0 g1 g2
    clear GI
    by_cases n9 : 9000 < n
    · have e := unhide hq
      rw [if_pos (.inr n9)] at e
      subst e
      clear hq
      go_enter Try.func4, Try.ntmps4
      go_wp2_with fail
      refine (unhide SG).mono ?_
      rintro e u ⟨rfl, rfl⟩
      go_wp2
      go_ret3
      exact ⟨_, 0, rfl, unhide O0, unhide B0⟩
    have e := unhide hq
    rw [if_neg (by simp; omega)] at e
    simp only at e
    obtain ⟨n, rfl⟩ : ∃ m : Nat, n = m := ⟨n.toNat, by omega⟩
    obtain ⟨f, rfl⟩ : ∃ m : Nat, f = m := ⟨f.toNat, by omega⟩
    have a1 : wrap64 ((xs.length : Int) - f) = xs.length - f := by rw [wrap64]; omega
    have a2 : wrap64 ((n : Int) + 4) = n + 4 := by rw [wrap64]; omega
    clear hq
    by_cases s : (xs.length : Int) - f < n + 4
    · rw [if_pos s] at e
      subst e
      go_enter Try.func4, Try.ntmps4
      go_wp2_with fail
      refine (unhide SG).mono ?_
      rintro e u ⟨rfl, rfl⟩
      go_wp2
      go_ret3
      exact ⟨_, 0, rfl, unhide O0, unhide B0⟩
    rw [if_neg s, Int.toNat_natCast, Int.toNat_natCast] at e
    have E := hide e
    clear e
    have fn : f + n + 4 ≤ xs.length := by omega
    have a3 : wrap64 ((f : Int) + n) = f + n := by rw [wrap64]; omega
    have a4 : wrap64 ((f : Int) + n + 4) = f + n + 4 := by rw [wrap64]; omega
    have PL := hide (piece_len (xs := xs) (f := f) (n := n) (by omega))
    have PA := hide (show AtO (w.alloc (.cells #[] 5)) gl f (piece xs f n) from fun i hi => by
      rw [unhide PL] at hi
      rw [piece_get hi]
      exact ((AtB.below (unhide R) (unhide B0) (unhide HG)) (f + i) (by omega)).1)
    have b0 : (f : Int) ≤ f + n := by omega
    have b1 : (f : Int) + n ≤ cl := by omega
    have b2 : (f : Int) + n + 4 ≤ cl := by omega
    have b3 : (f : Int) + n ≤ f + n + 4 := by omega
    clear g0 g1 g2
    go_enter Try.func4, Try.ntmps4
    go_wp2_with fail
    refine (unhide SG).mono ?_
    rintro e u ⟨rfl, rfl⟩
    go_wp2_with (first | (at_builtin; refine wp_catB _ rfl _ _ rfl u.heap.size u.heap.size 0 0 n [] (piece xs f n) gl f (cl - f) rfl (by first | rfl | (simp [go_sem]; done) | (simp [Act.eval]; omega)) (unhide O0) (unhide PL) (unhide PA) (by omega) (by simp) ?_) | go_in)
    intro g5 c5 w5 o5 gr5 loc5
    have og := o5.lt
    have B5 := hide (show Below u.heap.size u w5 from (unhide B0).grown gr5 (by simp) (fun j hj => by cases hj; exact Nat.le_refl _))
    have O5 := hide o5
    have R5 := hide (AtB.below (unhide R) (unhide B5) (unhide HG))
    have D := hide (show ∀ i, i < 4 → w5.cell? ⟨gl, f + n + i, none⟩ = some (.int .u8 (xs.getD (f + n + i) 0)) ∧ 0 ≤ xs.getD (f + n + i) 0 ∧ xs.getD (f + n + i) 0 ≤ 255 from fun i hi => (unhide R5) (f + n + i) (by omega))
    clear o5 gr5 loc5 O0 B0
    obtain ⟨e0, e1⟩ := (unhide D) 0 (by omega)
    obtain ⟨f0, f1⟩ := (unhide D) 1 (by omega)
    obtain ⟨h0, h1⟩ := (unhide D) 2 (by omega)
    obtain ⟨k0, k1⟩ := (unhide D) 3 (by omega)
    rw [Nat.add_zero] at e0 e1
    have FO := hide (show fourN xs (f + n) = xs.getD (f + n) 0 + xs.getD (f + n + 1) 0 * 256 + xs.getD (f + n + 2) 0 * 65536 + xs.getD (f + n + 3) 0 * 16777216 from rfl)
    generalize xs.getD (f + n) 0 = v0 at *
    generalize xs.getD (f + n + 1) 0 = v1 at *
    generalize xs.getD (f + n + 2) 0 = v2 at *
    generalize xs.getD (f + n + 3) 0 = v3 at *
    rw [unhide FO] at E
    have PC := hide (sCheck w5.drew g5 c5 (piece xs f n) (by rw [unhide PL]; omega) (fun i hi => by
      have := (unhide O5).at i hi
      refine ⟨this, ?_⟩
      rw [unhide PL] at hi
      rw [piece_get hi]
      exact ((unhide R5) (f + i) (by omega)).2))
    rw [unhide PL] at PC
    obtain ⟨z, hz⟩ : ∃ z, Hid (chkB (piece xs f n) = z) := ⟨_, rfl⟩
    rw [unhide hz] at E
    have ez : chkB (piece xs f n) = 65536 * (chk (piece xs f n) n).2 + (chk (piece xs f n) n).1 := by unfold chkB; rw [unhide PL]
    rw [← ez, unhide hz] at PC
    have PC' : Hid (Calls Try.prog 11 #[.slice (some ⟨g5, 0, none⟩) n c5] w5.drew fun e w' => e = .returned (.int .i64 z) ∧ w' = w5.drew) := PC
    clear ez
    clear PC D FO
    have V := hide (And.intro e1 (And.intro f1 (And.intro h1 k1)))
    clear e1 f1 h1 k1
    by_cases q : z = v0 + v1 * 256 + v2 * 65536 + v3 * 16777216
    · have e := unhide E
      rw [if_pos q] at e
      subst e
      have Q := hide q
      clear E q
      go_wp2_with fail
      have K4 := And.intro e0 (And.intro f0 (And.intro h0 k0))
      go_region_held3 (fun w' => w'.cell? ⟨gl, f + n, none⟩ = some (.int .u8 v0) ∧ w'.cell? ⟨gl, f + n + 1, none⟩ = some (.int .u8 v1) ∧ w'.cell? ⟨gl, f + n + 2, none⟩ = some (.int .u8 v2) ∧ w'.cell? ⟨gl, f + n + 3, none⟩ = some (.int .u8 v3)) (first | exact K4)
        (first | (go_at_call 11; refine (unhide PC').mono ?_; rintro e u5 ⟨rfl, rfl⟩))
      obtain ⟨e1, f1, h1, k1⟩ := unhide V
      have x0 : IntKind.i64.wrap v0 = v0 := w64 _ (by omega) (by omega)
      have x1 : IntKind.i64.wrap v1 = v1 := w64 _ (by omega) (by omega)
      have x2 : IntKind.i64.wrap v2 = v2 := w64 _ (by omega) (by omega)
      have x3 : IntKind.i64.wrap v3 = v3 := w64 _ (by omega) (by omega)
      have y1 : IntKind.i64.wrap (v1 * 256) = v1 * 256 := w64 _ (by omega) (by omega)
      have y2 : IntKind.i64.wrap (v2 * 65536) = v2 * 65536 := w64 _ (by omega) (by omega)
      have y3 : IntKind.i64.wrap (v3 * 16777216) = v3 * 16777216 := w64 _ (by omega) (by omega)
      have z1 : IntKind.i64.wrap (v0 + v1 * 256) = v0 + v1 * 256 := w64 _ (by omega) (by omega)
      have z2 : IntKind.i64.wrap (v0 + v1 * 256 + v2 * 65536) = v0 + v1 * 256 + v2 * 65536 := w64 _ (by omega) (by omega)
      have z3 : IntKind.i64.wrap (v0 + v1 * 256 + v2 * 65536 + v3 * 16777216) = v0 + v1 * 256 + v2 * 65536 + v3 * 16777216 := w64 _ (by omega) (by omega)
      simp only [x0, x1, x2, x3, y1, y2, y3, z1, z2, z3]
      clear x0 x1 x2 x3 y1 y2 y3 z1 z2 z3 e1 f1 h1 k1
      rw [unhide Q]
      generalize v0 + v1 * 256 + v2 * 65536 + v3 * 16777216 = m at *
      have hm : (m != m) = false := by simp
      go_wp2
      go_ret3
      exact ⟨g5, c5, by rw [unhide PL]; rfl, by rw [unhide PL]; exact unhide O5, (unhide B5).drew⟩
    · have e := unhide E
      rw [if_neg q] at e
      subst e
      have Q := hide q
      clear E q
      go_wp2_with fail
      have K4 := And.intro e0 (And.intro f0 (And.intro h0 k0))
      go_region_held3 (fun w' => w'.cell? ⟨gl, f + n, none⟩ = some (.int .u8 v0) ∧ w'.cell? ⟨gl, f + n + 1, none⟩ = some (.int .u8 v1) ∧ w'.cell? ⟨gl, f + n + 2, none⟩ = some (.int .u8 v2) ∧ w'.cell? ⟨gl, f + n + 3, none⟩ = some (.int .u8 v3)) (first | exact K4)
        (first | (go_at_call 11; refine (unhide PC').mono ?_; rintro e u5 ⟨rfl, rfl⟩))
      obtain ⟨e1, f1, h1, k1⟩ := unhide V
      have x0 : IntKind.i64.wrap v0 = v0 := w64 _ (by omega) (by omega)
      have x1 : IntKind.i64.wrap v1 = v1 := w64 _ (by omega) (by omega)
      have x2 : IntKind.i64.wrap v2 = v2 := w64 _ (by omega) (by omega)
      have x3 : IntKind.i64.wrap v3 = v3 := w64 _ (by omega) (by omega)
      have y1 : IntKind.i64.wrap (v1 * 256) = v1 * 256 := w64 _ (by omega) (by omega)
      have y2 : IntKind.i64.wrap (v2 * 65536) = v2 * 65536 := w64 _ (by omega) (by omega)
      have y3 : IntKind.i64.wrap (v3 * 16777216) = v3 * 16777216 := w64 _ (by omega) (by omega)
      have z1 : IntKind.i64.wrap (v0 + v1 * 256) = v0 + v1 * 256 := w64 _ (by omega) (by omega)
      have z2 : IntKind.i64.wrap (v0 + v1 * 256 + v2 * 65536) = v0 + v1 * 256 + v2 * 65536 := w64 _ (by omega) (by omega)
      have z3 : IntKind.i64.wrap (v0 + v1 * 256 + v2 * 65536 + v3 * 16777216) = v0 + v1 * 256 + v2 * 65536 + v3 * 16777216 := w64 _ (by omega) (by omega)
      simp only [x0, x1, x2, x3, y1, y2, y3, z1, z2, z3]
      clear x0 x1 x2 x3 y1 y2 y3 z1 z2 z3 e1 f1 h1 k1
      have hm : (z != v0 + v1 * 256 + v2 * 65536 + v3 * 16777216) = true := by simpa using unhide Q
      generalize v0 + v1 * 256 + v2 * 65536 + v3 * 16777216 = m at *
      have O6 := hide (lit0 w5.drew u.heap.size (unhide B5).size rfl)
      have B6 := hide ((unhide B5).drew.alloc (unhide B5).size (.cells #[] 5))
      go_wp2
      go_ret3
      exact ⟨_, 0, rfl, unhide O6, unhide B6⟩

end Go.Proofs.Ytjnabhflddnbaab.SUnseal11
