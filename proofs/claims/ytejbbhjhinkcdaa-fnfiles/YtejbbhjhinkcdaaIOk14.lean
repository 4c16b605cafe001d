/- Disks: the program's DiskOk. -/
import Derived.Test.YtejbbhjhinkcdaaIFile14
namespace Go.Proofs.Ytejbbhjhinkcdaa.IOk14
open Go.ChangeShapes Go.WideShapes Go.ChangeAt Go.RowKit Fil14 DiskH14 DkH14 SDk14 SOk14 IFile14
set_option linter.unusedVariables false
set_option linter.unusedSimpArgs false
/-- Where the program's walk along the files stands. -/
def Okk (ps : List TF) (room : Int) (k : Nat) (lf y : Int) : Prop := lf = room - sumZ (ps.take k) ∧ (k = 0 → y = -1) ∧ (0 < k → y = (elF ps (k - 1)).1) ∧ ∀ i, i < k → okAt ps i
theorem okk_0 (ps : List TF) (room : Int) : Okk ps room 0 room (-1) := ⟨by simp [sumZ], fun _ => rfl, fun h => absurd h (by omega), fun i h => absurd h (by omega)⟩
theorem okk_next {ps : List TF} {room : Int} {k : Nat} {lf y : Int} (h : Okk ps room k lf y) (hk : k < ps.length) (a : okN (elF ps k).1 = true) (b : ¬ (elF ps k).1 ≤ y) : Okk ps room (k + 1) (lf - ((elF ps k).2.1.size + (elF ps k).2.2.size)) (elF ps k).1 := by
  obtain ⟨h1, h2, h3, h4⟩ := h
  have n := sumZ_next hk
  refine ⟨by omega, fun e => absurd e (by omega), fun _ => by simp, fun i hi => ?_⟩
  by_cases e : i = k
  · subst e
    refine ⟨a, fun p => ?_⟩
    have := h3 p
    omega
  · exact h4 i (by omega)
theorem okk_bad1 {ps : List TF} {room : Int} {k : Nat} (hk : k < ps.length) (a : okN (elF ps k).1 = false) : ¬ OkD room ps := fun h => by
  have := (h.2.2.2 k hk).1
  rw [a] at this
  cases this
theorem okk_bad2 {ps : List TF} {room : Int} {k : Nat} {lf y : Int} (g : Okk ps room k lf y) (hk : k < ps.length) (a : okN (elF ps k).1 = true) (b : (elF ps k).1 ≤ y) : ¬ OkD room ps := fun h => by
  have n := (h.2.2.2 k hk).2
  have l : 0 ≤ (elF ps k).1 := (of_decide_eq_true a).1
  by_cases e : k = 0
  · have := g.2.1 e
    omega
  · have := g.2.2.1 (by omega)
    have := n (by omega)
    omega
theorem okk_bad3 {ps : List TF} {room : Int} {k : Nat} {lf y : Int} (g : Okk ps room k lf y) (hk : k < ps.length) (b : lf - ((elF ps k).2.1.size + (elF ps k).2.2.size) < 0) : ¬ OkD room ps := fun h => by
  have n := sumZ_next hk
  have l := sumZ_le ps (k + 1)
  have := h.2.2.1
  have := g.1
  omega
theorem names_up {ps : List TF} (h : ∀ i, i < ps.length → okAt ps i) : ∀ i : Nat, i < ps.length → (i : Int) ≤ (elF ps i).1
  | 0 => fun q => by
    have := (h 0 q).1
    exact (of_decide_eq_true this).1
  | i + 1 => fun q => by
    have := names_up h i (by omega)
    have := (h (i + 1) q).2 (by omega)
    simp only [Nat.add_sub_cancel] at this
    omega
theorem okk_all {ps : List TF} {room : Int} {lf y : Int} (g : Okk ps room ps.length lf y) (h0 : 0 ≤ room ∧ room ≤ 60000) (hl : 0 ≤ lf) : OkD room ps := by
  obtain ⟨h1, _, _, h4⟩ := g
  rw [List.take_length] at h1
  refine ⟨h0, ?_, by omega, h4⟩
  by_cases e : ps.length = 0
  · omega
  · have a := names_up h4 (ps.length - 1) (by omega)
    have b := (h4 (ps.length - 1) (by omega)).1
    have b := (of_decide_eq_true b).2
    omega
set_option maxRecDepth 100000 in
set_option maxHeartbeats 4000000 in
theorem iDiskOk (w : World) (x : Dx) (hr : RdD w x) (hz : sumZ x.ps ≤ 1048576) :
    Calls Try.prog 11 #[.agg #[.int .i64 x.room, .slice x.a x.ps.length x.c]] w fun e w' => e = .returned (.bool (decide (OkD x.room x.ps))) ∧ Below w.heap.size w w' := by
  have W0 := hide (Wd.made hr 26)
  have h20 := hr.n
  clear hr
  generalize hR : decide (OkD x.room x.ps) = R
  have HR := hide hR
  clear hR
  by_cases q0 : x.room < 0
  · obtain rfl : R = false := by rw [← unhide HR]; exact decide_eq_false (fun h => by have := h.1; omega)
    clear HR
    go_enter Try.func11, Try.ntmps11
    go_wp2
    go_ret
    exact ⟨rfl, (unhide W0).b⟩
  have d0 : decide (x.room < 0) = false := decide_eq_false q0
  by_cases q1 : x.room > 60000
  · obtain rfl : R = false := by rw [← unhide HR]; exact decide_eq_false (fun h => by have := h.1; omega)
    clear HR q0
    go_enter Try.func11, Try.ntmps11
    go_wp2
    go_ret
    exact ⟨rfl, (unhide W0).b⟩
  have d1 : decide (x.room > 60000) = false := decide_eq_false q1
  have RM := hide (show 0 ≤ x.room ∧ x.room ≤ 60000 by omega)
  have OK0 := hide (okk_0 x.ps x.room)
  clear q0 q1
  go_enter Try.func11, Try.ntmps11
  go_wp2
  go_loopw [3, 4, 20] (fun l b i wr => ∃ (k : Nat) (lf y : Int), k ≤ x.ps.length ∧ i = .int .i64 k ∧ l = .int .i64 lf ∧ b = .int .i64 y ∧ 0 ≤ lf ∧ lf ≤ 60000 ∧ Hid (Okk x.ps x.room k lf y) ∧ Hid (Wd w wr x)) (fun _ _ i _ => x.ps.length - (intOf i).toNat)
  case atStart => exact ⟨0, x.room, -1, by omega, rfl, rfl, rfl, (unhide RM).1, (unhide RM).2, OK0, W0⟩
  case round =>
    clear W0 OK0 d0 d1
    obtain ⟨k, lf, y, hk, rfl, rfl, rfl, y0, y1, HY, HW⟩ := hrel
    by_cases t : k < x.ps.length
    · have kt : (k : Int) < x.ps.length := by omega
      have NX := sumZ_next t
      have LE := sumZ_le x.ps (k + 1)
      have BAD1 := hide (fun a => okk_bad1 (room := x.room) t a)
      have BAD2 := hide (fun a b => okk_bad2 (unhide HY) t a b)
      have BAD3 := hide (fun a => okk_bad3 (unhide HY) t a)
      have GO := hide (fun a b => okk_next (unhide HY) t a b)
      obtain ⟨g, ea, lg, e0, e1, e2⟩ := cells_of (unhide HW).r t
      have c1 := (unhide HW).c1
      have lt := (unhide HW).lt
      generalize (elF x.ps k).1 = z0 at *
      generalize (elF x.ps k).2.1 = z1 at *
      generalize (elF x.ps k).2.2 = z2 at *
      have b1 : z1.size + z2.size ≤ 1048576 := by omega
      obtain ⟨lg2, hl⟩ : ∃ q, q = lf - ((z1.size : Int) + z2.size) := ⟨_, rfl⟩
      have a2 : wrap64 (lf - ((z1.size : Int) + z2.size)) = lg2 := by rw [wrap64]; omega
      have S3 := hide (fun h : ¬ lg2 < 0 => show 0 ≤ lg2 ∧ lg2 ≤ 60000 by omega)
      have BAD4 := hide (fun h : lg2 < 0 => (unhide BAD3) (by rw [← hl]; exact h))
      rw [← hl] at GO
      clear hl BAD3
      clear NX LE HY
      have IX := SCom14.ixF x.c ea t
      clear ea c1
      have OB := hide (one_more wr (.cells #[.int .i64 z0, .string z1, .string z2] 32))
      have F0 : (wr.alloc (.cells #[.int .i64 z0, .string z1, .string z2] 32)).cell? ⟨wr.heap.size, 0, none⟩ = some (.int .i64 z0) := by simp [go_sem]
      have FS : wr.heap.size < (wr.alloc (.cells #[.int .i64 z0, .string z1, .string z2] 32)).heap.size := by simp
      have F := hide (And.intro F0 FS)
      clear F0 FS
      go_wp2_with fail
      refine (iSizeF _ z0 z1 z2 b1).mono ?_
      rintro e w2 ⟨rfl, bb⟩
      have f0 := (bb.cell (p := ⟨wr.heap.size, 0, none⟩) (unhide F).2).trans (unhide F).1
      have HW2 := hide (((unhide HW).step (unhide OB)).step bb)
      clear bb OB F HW e0 e1 e2 IX
      have D := hide (fun u b h => iNameB u z0 b h)
      clear b1
      by_cases n1 : okN z0 = true
      · have N1 := hide n1
        clear n1
        by_cases n2 : z0 ≤ y
        · obtain rfl : R = false := by rw [← unhide HR]; exact decide_eq_false ((unhide BAD2) (unhide N1) n2)
          clear BAD1 BAD2 BAD4 GO HR
          go_wp2_with fail
          refine (unhide D _ true (unhide N1)).mono ?_
          rintro e u ⟨rfl, rfl⟩
          go_wp2
          go_ret
          exact ⟨rfl, (unhide HW2).b⟩
        · have n2' : decide (z0 ≤ y) = false := decide_eq_false n2
          have GO' := hide ((unhide GO) (unhide N1) (by omega))
          clear n2 GO BAD1 BAD2
          by_cases n3 : lg2 < 0
          · obtain rfl : R = false := by rw [← unhide HR]; exact decide_eq_false ((unhide BAD4) n3)
            clear BAD4 GO' HR
            go_wp2_with fail
            refine (unhide D _ true (unhide N1)).mono ?_
            rintro e u ⟨rfl, rfl⟩
            go_wp2
            go_ret
            exact ⟨rfl, (unhide HW2).b⟩
          · have n3' : decide (lg2 < 0) = false := decide_eq_false n3
            have S := hide ((unhide S3) (by omega))
            clear n3 BAD4
            go_wp2_with fail
            refine (unhide D _ true (unhide N1)).mono ?_
            rintro e u ⟨rfl, rfl⟩
            go_wp2
            go_roundw
            case rel => exact ⟨k + 1, lg2, z0, by omega, by go_num, rfl, rfl, (unhide S).1, (unhide S).2, GO', HW2⟩
            case measure => simp [intOf]; omega
      · have n1' : okN z0 = false := by simpa using n1
        obtain rfl : R = false := by rw [← unhide HR]; exact decide_eq_false ((unhide BAD1) n1')
        have N1 := hide n1'
        clear BAD1 BAD2 BAD4 GO HR n1 n1'
        go_wp2_with fail
        refine (unhide D _ false (unhide N1)).mono ?_
        rintro e u ⟨rfl, rfl⟩
        go_wp2
        go_ret
        exact ⟨rfl, (unhide HW2).b⟩
    · have e : k = x.ps.length := by omega
      have kt : ¬ (k : Int) < x.ps.length := by omega
      obtain rfl : R = true := by rw [← unhide HR]; exact decide_eq_true (okk_all (by rw [← e]; exact unhide HY) (unhide RM) y0)
      clear HY HR
      subst e
      go_wp2
      go_ret
      exact ⟨rfl, (unhide HW).b⟩
end Go.Proofs.Ytejbbhjhinkcdaa.IOk14
