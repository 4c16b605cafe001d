/- Texts of one proof, one behind the other: DrawK15, PureD14, PureG15, IFile14, IOk14, IDk14, PTab14, ICom14, IClear15, ISg15, IFrom15, IRd14, Len15. -/
import Derived.Test.YtcajdiopgaoicaaRows
import Derived.Test.YtcajdiopgaoicaaCG1
import Derived.Test.YtcajdiopgaoicaaCG2
import Derived.Test.YtcajdiopgaoicaaCG3
import Derived.Test.YtcajdiopgaoicaaCG4
import Derived.Test.YtcajdiopgaoicaaCG5
import Derived.Test.YtcajdiopgaoicaaCG6
import Derived.Test.YtcajdiopgaoicaaCG7
import Derived.Test.YtcajdiopgaoicaaCG8
set_option linter.unusedVariables false
set_option linter.unusedSimpArgs false
namespace Go.Proofs.Ytcajdiopgaoicaa.DrawK15
open Go.ChangeShapes Go.WideShapes Go.ChangeAt Go.RowKit Draw Draw11 DrawS11 DrawT14 DrawR14 DrawD14
open DiskH14 (sumZ one_more)
open DkH14 (Dx RdD OwD Bc row_step)
open App14 (row_base row_kept kcell grow_grow)
open SLess14 (bc_set1)
open SOk14 (OkD okN)
open DrawC14 (row_off)
open DrawA14 (Av)
open DrawG15 (drawSegs)
open SFrom15 (wp_appI)
/-- One of the eight numbers that are drawn as segments. -/
def of8 (j : Nat) : Int := [0, 0, 1, 18, 19, 2, 20, -1].getD j 0
theorem of8_cells (u : World) (j : Nat) (h : j < 8) : (u.alloc (.cells #[.int .i64 0, .int .i64 0, .int .i64 1, .int .i64 18, .int .i64 19, .int .i64 2, .int .i64 20, .int .i64 (-1)] 3)).cell? ⟨u.heap.size, j, none⟩ = some (.int .i64 (of8 j)) := by
  have : j = 0 ∨ j = 1 ∨ j = 2 ∨ j = 3 ∨ j = 4 ∨ j = 5 ∨ j = 6 ∨ j = 7 := by omega
  rcases this with rfl | rfl | rfl | rfl | rfl | rfl | rfl | rfl <;> simp [of8]
theorem of8_in (j : Nat) (h : j < 8) : -1 ≤ of8 j ∧ of8 j ≤ 20 := by
  have : j = 0 ∨ j = 1 ∨ j = 2 ∨ j = 3 ∨ j = 4 ∨ j = 5 ∨ j = 6 ∨ j = 7 := by omega
  rcases this with rfl | rfl | rfl | rfl | rfl | rfl | rfl | rfl <;> simp [of8]
set_option maxRecDepth 100000 in
theorem drawSeg (w0 w : World) (c : Nat) (a : Option Addr) (len cap : Nat) (hl : len ≤ 1048576) (hcode : CodeAt w0 a len) (h : Cur w0 w c a len cap) :
    Calls Try.prog 39 #[.pointer (some ⟨c, 0, none⟩)] w fun e w' => (∃ n : Int, -1 ≤ n ∧ n ≤ 20 ∧ e = .returned (.int .i64 n)) ∧ Moved w0 w w' c a len cap := by
  have HC := hide hcode
  have hc := h.hi
  have M1 := hide (moved_alloc (moved_start h) #[.int .i64 0, .int .i64 0, .int .i64 1, .int .i64 18, .int .i64 19, .int .i64 2, .int .i64 20, .int .i64 (-1)] 3)
  have OC := hide (fun j hj => of8_cells w j hj)
  have SZ := hide (show w.heap.size < (w.alloc (.cells #[.int .i64 0, .int .i64 0, .int .i64 1, .int .i64 18, .int .i64 19, .int .i64 2, .int .i64 20, .int .i64 (-1)] 3)).heap.size by simp)
  clear hcode h
  go_enter Try.func39, Try.ntmps39
  go_wp2_with fail
  refine (pick w0 _ c a len cap w.heap.size 8 of8 hl (unhide HC) (unhide M1).1 (by omega) (by omega) (unhide SZ) (by omega) (unhide OC)).mono ?_
  rintro e u ⟨⟨j, hj, rfl⟩, mv⟩
  have M2 := hide ((unhide M1).trans mv)
  have B := of8_in j hj
  clear mv OC SZ M1
  generalize of8 j = n at *
  have HB := hide B
  clear B
  go_wp2
  go_ret
  exact ⟨⟨n, (unhide HB).1, (unhide HB).2, rfl⟩, unhide M2⟩
/-- The disk's world, and a list of numbers that is drawn behind it. -/
structure Kv (w w1 u1 W : World) (c bd : Nat) (a : Option Addr) (len cap : Nat) (y : Dx) (g n k : Nat) (ks : List Int) : Prop where
  av : Av w w1 u1 W c bd a len cap y
  ko : Ints.Own W u1.heap.size g n k ks
  gb : bd < g
section
variable {w w1 u1 W W' : World} {c bd : Nat} {a : Option Addr} {len cap : Nat} {y : Dx} {g n k : Nat} {ks : List Int}
theorem Kv.moved (h : Kv w w1 u1 W c bd a len cap y g n k ks) (m : Moved w1 W W' c a len cap) : Kv w w1 u1 W' c bd a len cap y g n k ks := ⟨h.av.moved m, row_only h.ko m.2 h.av.hi, h.gb⟩
theorem Kv.below (h : Kv w w1 u1 W c bd a len cap y g n k ks) (m : Below W.heap.size W W') : Kv w w1 u1 W' c bd a len cap y g n k ks := ⟨h.av.below m, h.ko.below m h.ko.lt.2, h.gb⟩
end
theorem Kv.grown {w w1 u1 W W' : World} {c bd : Nat} {a : Option Addr} {len cap : Nat} {y : Dx} {g n k g' n' k' : Nat} {ks ks' : List Int} (h : Kv w w1 u1 W c bd a len cap y g n k ks) (m : W.grownBy W' (some g)) (o : Ints.Own W' u1.heap.size g' n' k' ks') (l : g' = g ∨ g' = W.heap.size) : Kv w w1 u1 W' c bd a len cap y g' n' k' ks' := by
  have gl := h.ko.lt
  have hi := h.av.hi
  have lo := h.av.cu.lo
  have bl := h.av.bx.lt
  have gb := h.gb
  refine ⟨⟨Draw.cur_grown h.av.cu m (by omega) (by omega), h.av.bx.kept m (by simp; omega), h.av.rb.kept m (by simp; omega), World.ownsRow.kept h.av.ow m (.inr (row_ne h.ko h.av.ow (by decide) rfl)), h.av.nb, h.av.nr, h.av.ne, h.av.hi⟩, o, by omega⟩
set_option maxRecDepth 100000 in
set_option maxHeartbeats 4000000 in
theorem drawClear (w : World) (a : Option Addr) (len cap : Nat) (hl : len ≤ 1048576) (hcode : CodeAt w a len) :
    Calls Try.prog 15 #[.slice a len cap] w fun e w' => ∃ (y : Dx) (ks : List Int) (gk ck : Nat), Sm y ∧ ks.length ≤ 21 ∧ e = .returned (.tuple #[.agg #[.int .i64 y.room, .slice y.a y.ps.length y.c], .slice (some ⟨gk, 0, none⟩) ks.length ck]) ∧ OwD w' w.heap.size y ∧ Ints.Own w' w.heap.size gk ks.length ck ks ∧ Below w.heap.size w w' := by
  obtain ⟨w1, hw1⟩ : ∃ w1, Hid (w1 = w.alloc (.cells #[.int .i64 0, .slice none 0 0] 26)) := ⟨_, rfl⟩
  have b1 := hide (show Below w.heap.size w w1 by rw [unhide hw1]; exact one_more _ _)
  have R1 := hide (show Bc w1 w.heap.size w.heap.size (.int .i64 0) (.slice none 0 0) by rw [unhide hw1]; exact Bc.made _ _ (Nat.le_refl _) rfl)
  have HC := hide (show CodeAt w1 a len from hcode.below (unhide b1))
  have s1 : w1.heap.size = w.heap.size + 1 := by rw [unhide hw1]; simp
  obtain ⟨i0, hi, hz0, hz1, hz2⟩ := info_parts Ints.info3
  clear hcode
  go_enter Try.func15, Try.ntmps15
  go_wp2_with fail
  rw [← unhide hw1]
  clear hw1
  refine (new w1 a len cap hl (unhide HC)).mono ?_
  rintro e u1 ⟨c, rfl, cur⟩
  have CU := hide cur
  have chi := cur.hi
  have clo := cur.lo
  clear cur
  go_wp2_with fail
  refine (drawSegs w1 u1 c a len cap hl (unhide HC) (unhide CU)).mono ?_
  rintro e u2 ⟨y, sm, rfl, oy, mv⟩
  have CV0 := hide mv.1
  have u12 := mv.2.1
  have RV0 := hide (show Bc u2 w.heap.size w.heap.size (.int .i64 0) (.slice none 0 0) from row_off (show Bc u1 w.heap.size w.heap.size (.int .i64 0) (.slice none 0 0) from (unhide R1).below (unhide CU).bel (by omega)) mv.2 (by simp [Value.ownBlock]; omega))
  have bv := one_more u2 (.cells #[.int .i64 y.room, .slice y.a y.ps.length y.c] 26)
  have A1 := hide (show Av w w1 u1 (u2.alloc (.cells #[.int .i64 y.room, .slice y.a y.ps.length y.c] 26)) c u2.heap.size a len cap y from ⟨cur_below (unhide CV0) bv, Bc.made _ _ (by omega) rfl, Bc.below (unhide RV0) bv (unhide RV0).lt.2, row_step oy bv, by omega, by omega, by omega, chi⟩)
  have s2 : (u2.alloc (.cells #[.int .i64 y.room, .slice y.a y.ps.length y.c] 26)).heap.size = u2.heap.size + 1 := by simp
  have O1 : Ints.Own ((u2.alloc (.cells #[.int .i64 y.room, .slice y.a y.ps.length y.c] 26)).alloc (.cells #[] 3)) u1.heap.size (u2.alloc (.cells #[.int .i64 y.room, .slice y.a y.ps.length y.c] 26)).heap.size 0 0 [] := World.ownsRow_lit _ #[] 0 (by omega) (by decide) rfl
  rw [s2] at O1
  have K1 := hide (show Kv w w1 u1 ((u2.alloc (.cells #[.int .i64 y.room, .slice y.a y.ps.length y.c] 26)).alloc (.cells #[] 3)) c u2.heap.size a len cap y (u2.heap.size + 1) 0 0 [] from ⟨(unhide A1).below (one_more _ _), O1, by omega⟩)
  clear mv oy CV0 RV0 R1 CU bv A1 s2 O1
  go_wp2
  generalize (u2.alloc (.cells #[.int .i64 y.room, .slice y.a y.ps.length y.c] 26)).alloc (.cells #[] 3) = V at *
  generalize u2.heap.size = bd at *
  go_loopw [6, 7] (fun o i wr => ∃ (k g q : Nat) (ks : List Int), o = .slice (some ⟨g, 0, none⟩) ks.length q ∧ i = .int .i64 k ∧ k ≤ 4 ∧ ks.length ≤ k ∧ Hid (Kv w w1 u1 wr c bd a len cap y g ks.length q ks)) (fun _ i _ => 4 - (intOf i).toNat)
  case atStart => exact ⟨0, bd + 1, 0, [], rfl, rfl, by omega, by simp, K1⟩
  case round =>
    clear K1
    obtain ⟨k, g, q, ks, rfl, rfl, hk, hks, KV⟩ := hrel
    go_wp2_with fail
    refine (below w1 wr c a len cap 4 hl (unhide HC) (unhide KV).av.cu (by omega)).mono ?_
    rintro e v0 ⟨⟨r, r0, r1, rfl⟩, mv⟩
    have K2 := hide ((unhide KV).moved mv)
    clear mv KV
    by_cases qq : (k : Int) < r
    · have kl : k < 4 := by omega
      go_wp2_with fail
      refine (drawSeg w1 v0 c a len cap hl (unhide HC) (unhide K2).av.cu).mono ?_
      rintro e v1 ⟨⟨n, n0, n1, rfl⟩, mv⟩
      have K3 := hide ((unhide K2).moved mv)
      clear mv K2
      have K4 := hide ((unhide K3).below (one_more v1 (.cells #[.int .i64 n] 3)))
      go_wp2_with (first | (at_builtin; refine wp_appI _ rfl _ _ rfl u1.heap.size g ks.length q ks v1.heap.size n rfl rfl (unhide K4).ko (by simp) (by omega) (Nat.le_of_lt (Nat.lt_of_le_of_lt (unhide K4).ko.lt.1 (unhide K4).ko.lt.2)) ?_; intro g9 c9 w9 o9 gr9 loc; have K9 := hide ((unhide K4).grown gr9 o9 loc); clear o9 gr9 loc) | go_in)
      go_roundw
      case rel => exact ⟨k + 1, g9, c9, ks ++ [n], by simp, by go_num, by omega, by simp; omega, by rw [List.length_append, List.length_singleton]; exact K9⟩
      case measure => simp [intOf]; omega
    · go_wp2_with fail
      refine (once w1 v0 c a len cap 25 hl (unhide HC) (unhide K2).av.cu (by omega)).mono ?_
      rintro e v3 ⟨⟨t, rfl⟩, mv⟩
      have K4 := hide ((unhide K2).moved mv)
      clear mv K2
      cases t with
      | false =>
        have p0 := (unhide K4).av.bx.c0
        have p1 := (unhide K4).av.bx.c1
        have q0 := (unhide K4).av.rb.c0
        have q1 := (unhide K4).av.rb.c1
        have f0 := (unhide K4).av.rb.free 0
        have f1 := (unhide K4).av.rb.free 1
        have t0 := (unhide K4).av.rb.set0 (.int .i64 y.room)
        have t1 := bc_set1 t0.1 (.slice y.a y.ps.length y.c)
        have ST := hide (grow_grow t0.2 t1.2)
        have wl := (unhide K4).av.rb.lt.2
        have EO := hide (row_base (row_kept (unhide K4).av.ow (unhide ST) (by omega)) (show w.heap.size ≤ u1.heap.size by omega))
        have EK := hide (row_base (row_kept (unhide K4).ko (unhide ST) (by omega)) (show w.heap.size ≤ u1.heap.size by omega))
        have EB := hide (((unhide b1).trans ((unhide K4).av.cu.bel.mono (by omega))).grown (unhide ST) (Nat.le_of_lt wl) (fun j hj => by injection hj with hj; omega))
        clear t0 t1
        go_wp2
        refine bodyPost_ret (v := .tuple #[.agg #[.int .i64 y.room, .slice y.a y.ps.length y.c], .slice (some ⟨g, 0, none⟩) ks.length q]) (by simp [results, Try.results15, go_sem, q0, q1]) rfl ⟨y, ks, g, q, sm, by omega, rfl, unhide EO, unhide EK, unhide EB⟩
      | true =>
        go_wp2_with fail
        refine (below w1 v3 c a len cap 2 hl (unhide HC) (unhide K4).av.cu (by omega)).mono ?_
        rintro e v4 ⟨⟨m, m0, m1, rfl⟩, mv⟩
        have K5 := hide ((unhide K4).moved mv)
        clear mv K4
        obtain ⟨kn, hkn⟩ : ∃ kn : Nat, 20 + m = kn := ⟨(20 + m).toNat, by omega⟩
        have wr1 : wrap64 (20 + m) = (kn : Int) := by rw [wrap64]; omega
        have k21 : kn ≤ 21 := by omega
        clear hkn m0 m1
        have ul := (unhide K5).ko.lt
        go_wp2_with (first | (at_make; (refine wpList_make_full _ rfl _ _ 37 rfl u1.heap.size 3 i0 (.int .i64 0) 1 Try.underlying37 hi hz0 hz1 .i64 .i64 _ _ kn rfl rfl (by first | rfl | exact wr1) (by first | rfl | exact wr1) (by rw [hz2]; omega) (by unfold maxLen; omega) (by omega) ?_; intro v5 hown hgrow; have K6 := hide (show Kv w w1 u1 v5 c bd a len cap y v4.heap.size kn kn (List.replicate kn 0) from ⟨(unhide K5).av.below (Ints.grownBy_below hgrow), by rw [Ints.made_zeros] at hown; exact hown, by have := (unhide K5).gb; omega⟩); clear hown hgrow K5; have p0 := (unhide K6).av.bx.c0; have p1 := (unhide K6).av.bx.c1; have q0 := (unhide K6).av.rb.c0; have q1 := (unhide K6).av.rb.c1; have f0 := (unhide K6).av.rb.free 0; have f1 := (unhide K6).av.rb.free 1)) | go_in)
        have t0 := (unhide K6).av.rb.set0 (.int .i64 y.room)
        have t1 := bc_set1 t0.1 (.slice y.a y.ps.length y.c)
        have ST := hide (grow_grow t0.2 t1.2)
        have wl := (unhide K6).av.rb.lt.2
        have EO := hide (row_base (row_kept (unhide K6).av.ow (unhide ST) (by omega)) (show w.heap.size ≤ u1.heap.size by omega))
        have EK := hide (row_base (row_kept (unhide K6).ko (unhide ST) (by omega)) (show w.heap.size ≤ u1.heap.size by omega))
        have EB := hide (((unhide b1).trans ((unhide K6).av.cu.bel.mono (by omega))).grown (unhide ST) (Nat.le_of_lt wl) (fun j hj => by injection hj with hj; omega))
        clear t0 t1
        refine bodyPost_ret (v := .tuple #[.agg #[.int .i64 y.room, .slice y.a y.ps.length y.c], .slice (some ⟨v4.heap.size, 0, none⟩) kn kn]) (by simp [results, Try.results15, go_sem, q0, q1]) rfl ⟨y, List.replicate kn 0, v4.heap.size, kn, sm, by simp; omega, by simp, unhide EO, by rw [List.length_replicate]; exact unhide EK, unhide EB⟩
end Go.Proofs.Ytcajdiopgaoicaa.DrawK15
namespace Go.Proofs.Ytcajdiopgaoicaa.PureD14
open Fil14 (TF elF flatF)
open DiskH14 (sumZ)
open SOk14 (OkD okN)
open SDk14 (findF)
open SRd14 (readD atD bytesAt)
open SPut14 (putF)
open SLess14 (lessN)
open SCrash14 (crashF crashD)
open SSync14 (syncD)
open SAppend14 (appF appendD)
open SCut14 (cutD)
open SMove14 (moveD)
open SDrop14 (dropD)
open Pure14 Ok14
theorem read_is {room : Int} {ps : List TF} (h : OkD room ps) {f : TF} (hf : f ∈ ps) : readD room ps f.1 = (f.2.1 ++ f.2.2, true) := by
  obtain ⟨k, e, l, hk⟩ := find_yes (asc_of h).1 hf
  unfold readD
  rw [if_pos ⟨h, by rw [e]; omega⟩, e, Int.toNat_natCast]
  unfold bytesAt
  rw [hk]
theorem read_no {room : Int} {ps : List TF} {nm : Int} (h : ∀ p ∈ ps, p.1 ≠ nm) : readD room ps nm = (ByteArray.empty, false) := by
  unfold readD
  rw [if_neg (by rw [find_no h]; omega)]
end Go.Proofs.Ytcajdiopgaoicaa.PureD14
namespace Go.Proofs.Ytcajdiopgaoicaa.PureG15
open Fil14 DiskH14 SDk14 SOk14 SRd14 Pure14 PureD14 SegP15 SClear15 SFrom15
theorem sum_filter (f : TF → Bool) : ∀ ps : List TF, sumZ (ps.filter f) ≤ sumZ ps
  | [] => by simp
  | p :: ps => by
    have := sum_filter f ps
    rw [List.filter_cons]
    split
    · rw [sum_cons, sum_cons]; omega
    · rw [sum_cons]; omega
theorem clear_ok {room : Int} {ps : List TF} (ks : List Int) (h : OkD room ps) : OkD room (ps.filter (stays ks)) := by
  obtain ⟨ha, hn⟩ := asc_of h
  have := sum_filter (stays ks) ps
  have := h.2.2.1
  exact okd_of h.1 (by omega) (List.Pairwise.filter _ ha) (fun p hp => hn p (List.mem_filter.1 hp).1)
theorem clear_read {room : Int} {ps : List TF} (ks : List Int) (h : OkD room ps) (nm : Int) : readD room (ps.filter (stays ks)) nm = if (readD room ps nm).2 = true ∧ (okS nm = false ∨ ks.contains nm = true) then readD room ps nm else (ByteArray.empty, false) := by
  obtain ⟨ha, hn⟩ := asc_of h
  by_cases q : ∃ f ∈ ps, f.1 = nm
  · obtain ⟨f, hf, rfl⟩ := q
    have r := read_is h hf
    by_cases s : stays ks f = true
    · have r2 := read_is (clear_ok ks h) (List.mem_filter.2 ⟨hf, s⟩)
      rw [r2, r, if_pos]
      refine ⟨rfl, ?_⟩
      unfold stays at s
      simpa using s
    · rw [r, if_neg]
      · refine read_no (fun p hp e => ?_)
        obtain ⟨m, t⟩ := List.mem_filter.1 hp
        obtain ⟨k, e1, _, e2⟩ := find_yes ha hf
        obtain ⟨k', e3, _, e4⟩ := find_yes ha m
        rw [e, e1] at e3
        have : k = k' := by omega
        subst this
        rw [← e4, e2] at t
        exact s t
      · intro z
        apply s
        unfold stays
        simpa using z.2
  · have no : ∀ p ∈ ps, p.1 ≠ nm := fun p hp e => q ⟨p, hp, e⟩
    rw [read_no no, read_no (fun p hp => no p (List.mem_filter.1 hp).1), if_neg (by simp)]
theorem read_there {room : Int} {ps : List TF} {nm : Int} (h : OkD room ps) (b : Bool) (e : decide (0 ≤ findF ps nm) = b) : (readD room ps nm).2 = b := by
  unfold readD
  cases b with
  | true => rw [if_pos ⟨h, of_decide_eq_true e⟩]
  | false => rw [if_neg (fun q => of_decide_eq_false e q.2)]
theorem from_inv {ps : List TF} {s : Int} (h : 0 ≤ s ∧ s ≤ 19) : ∀ j, (fromS ps s j).2.1 = (s + ((fromS ps s j).1.length : Int)) % 20 ∧ (∀ i, i < (fromS ps s j).1.length → (fromS ps s j).1.getD i 0 = (s + (i : Int)) % 20 ∧ 0 ≤ findF ps ((fromS ps s j).1.getD i 0)) ∧ ((fromS ps s j).2.2 = true → (fromS ps s j).1.length = j) ∧ ((fromS ps s j).2.2 = false → findF ps (fromS ps s j).2.1 < 0)
  | 0 => by
    refine ⟨?_, fun i hi => by simp [fromS] at hi, fun _ => rfl, fun q => by simp [fromS] at q⟩
    show s = (s + 0) % 20
    omega
  | j + 1 => by
    obtain ⟨i1, i2, i3, i4⟩ := from_inv h j
    rw [fromS]
    by_cases q : (fromS ps s j).2.2 = true ∧ 0 ≤ findF ps (fromS ps s j).2.1
    · rw [if_pos q]
      generalize fromS ps s j = r at *
      obtain ⟨l, p, b⟩ := r
      simp only at *
      refine ⟨?_, fun i hi => ?_, fun _ => by simp [i3 q.1], fun z => by simp at z⟩
      · rw [List.length_append, List.length_singleton, i1]
        push_cast
        omega
      · rw [List.length_append, List.length_singleton] at hi
        by_cases e : i < l.length
        · have : (l ++ [p]).getD i 0 = l.getD i 0 := by rw [List.getD, List.getD, List.getElem?_append_left e]
          rw [this]
          exact i2 i e
        · have e' : i = l.length := by omega
          subst e'
          have : (l ++ [p]).getD l.length 0 = p := by rw [List.getD, List.getElem?_append_right (Nat.le_refl _)]; simp
          rw [this]
          exact ⟨i1, q.2⟩
    · rw [if_neg q]
      refine ⟨i1, i2, fun z => by simp at z, fun _ => ?_⟩
      cases b : (fromS ps s j).2.2 with
      | true => exact Int.not_le.1 (fun z => q ⟨b, z⟩)
      | false => exact i4 b
theorem from_row {room : Int} {ps : List TF} {s : Int} (ok : OkD room ps) (hs : 0 ≤ s ∧ s ≤ 19) : (fromD room ps s).length ≤ 20 ∧ (∀ i, i < (fromD room ps s).length → (fromD room ps s).getD i 0 = (s + (i : Int)) % 20 ∧ (readD room ps ((fromD room ps s).getD i 0)).2 = true) ∧ ((fromD room ps s).length < 20 → (readD room ps ((s + ((fromD room ps s).length : Int)) % 20)).2 = false) := by
  have e : fromD room ps s = (fromS ps s 20).1 := by unfold fromD; rw [if_pos ⟨ok, decide_eq_true hs⟩]
  obtain ⟨i1, i2, i3, i4⟩ := from_inv (ps := ps) hs 20
  rw [e]
  refine ⟨?_, fun i hi => ⟨(i2 i hi).1, read_there ok true (decide_eq_true (i2 i hi).2)⟩, fun q => ?_⟩
  · cases b : (fromS ps s 20).2.2 with
    | true => rw [i3 b]; exact Nat.le_refl _
    | false =>
      have : ∀ j, (fromS ps s j).1.length ≤ j := by
        intro j
        induction j with
        | zero => simp [fromS]
        | succ j ih => rw [fromS]; split <;> simp <;> omega
      exact this 20
  · rw [← i1]
    refine read_there ok false (decide_eq_false (fun z => ?_))
    cases b : (fromS ps s 20).2.2 with
    | true => rw [i3 b] at q; omega
    | false => have := i4 b; omega
end Go.Proofs.Ytcajdiopgaoicaa.PureG15
namespace Go.Proofs.Ytcajdiopgaoicaa.IFile14
open Go.ChangeShapes Go.WideShapes Go.ChangeAt Go.RowKit Fil14 DiskH14 DkH14 SDk14 SOk14
set_option maxRecDepth 100000 in
theorem iName (w : World) (n : Int) : Calls Try.prog 51 #[.int .i64 n] w fun e w' => e = .returned (.bool (okN n)) ∧ w' = w := by
  unfold okN
  by_cases h0 : 0 ≤ n
  · by_cases h1 : n ≤ 21
    · rw [decide_eq_true ⟨h0, h1⟩]
      have a : n ≥ 0 := h0
      have b : n < 22 := by omega
      clear h1
      go_enter Try.func51, Try.ntmps51
      go_wp2
      go_ret
      exact ⟨rfl, rfl⟩
    · rw [decide_eq_false (fun q => h1 q.2)]
      have a : n ≥ 0 := h0
      have b : ¬ n < 22 := by omega
      clear h1
      go_enter Try.func51, Try.ntmps51
      go_wp2
      go_ret
      exact ⟨rfl, rfl⟩
  · rw [decide_eq_false (fun q => h0 q.1)]
    have a : ¬ n ≥ 0 := h0
    go_enter Try.func51, Try.ntmps51
    go_wp2
    go_ret
    exact ⟨rfl, rfl⟩
theorem iNameB (w : World) (n : Int) (b : Bool) (h : okN n = b) : Calls Try.prog 51 #[.int .i64 n] w fun e w' => e = .returned (.bool b) ∧ w' = w := by
  rw [← h]
  exact iName w n
set_option maxRecDepth 100000 in
/-- How many bytes a file has. -/
theorem iSizeF (w : World) (p0 : Int) (p1 p2 : ByteArray) (h : p1.size + p2.size ≤ 1048576) : Calls Try.prog 50 #[.agg #[.int .i64 p0, .string p1, .string p2]] w fun e w' => e = .returned (.int .i64 ((p1.size : Int) + p2.size)) ∧ Below w.heap.size w w' := by
  have B := hide (one_more w (.cells #[.int .i64 p0, .string p1, .string p2] 54))
  have a1 : wrap64 ((p1.size : Int) + p2.size) = p1.size + p2.size := by rw [wrap64]; omega
  go_enter Try.func50, Try.ntmps50
  go_wp2
  go_ret
  exact ⟨rfl, unhide B⟩
set_option maxRecDepth 100000 in
/-- The bytes of a file. -/
theorem iText (w : World) (p0 : Int) (p1 p2 : ByteArray) (h : p1.size + p2.size ≤ 1048576) : Calls Try.prog 48 #[.agg #[.int .i64 p0, .string p1, .string p2]] w fun e w' => e = .returned (.string (p1 ++ p2)) ∧ Below w.heap.size w w' := by
  have B := hide (one_more w (.cells #[.int .i64 p0, .string p1, .string p2] 54))
  go_enter Try.func48, Try.ntmps48
  go_wp2
  go_ret
  exact ⟨rfl, unhide B⟩
end Go.Proofs.Ytcajdiopgaoicaa.IFile14
namespace Go.Proofs.Ytcajdiopgaoicaa.IOk14
open Go.ChangeShapes Go.WideShapes Go.ChangeAt Go.RowKit Fil14 DiskH14 DkH14 SDk14 SOk14 IFile14
/-- Where the program's walk along the files stands. -/
def Okk (ps : List TF) (room : Int) (k : Nat) (lf y : Int) : Prop := lf = room - sumZ (ps.take k) ∧ (k = 0 → y = -1) ∧ (0 < k → y = (elF ps (k - 1)).1) ∧ ∀ i, i < k → okAt ps i
theorem okk_0 (ps : List TF) (room : Int) : Okk ps room 0 room (-1) := ⟨by simp [sumZ], fun _ => rfl, fun h => absurd h (by omega), fun i h => absurd h (by omega)⟩
theorem okk_next {ps : List TF} {room : Int} {k : Nat} {lf y : Int} (h : Okk ps room k lf y) (hk : k < ps.length) (a : okN (elF ps k).1 = true) (b : ¬ (elF ps k).1 ≤ y) : Okk ps room (k + 1) (lf - ((elF ps k).2.1.size + (elF ps k).2.2.size)) (elF ps k).1 := by
  obtain ⟨h1, h2, h3, h4⟩ := h
  have n := sumZ_next hk
  refine ⟨by omega, fun e => absurd e (by omega), fun _ => by simp, fun i hi => ?_⟩
  by_cases e : i = k
  · subst e
    refine ⟨a, fun p => ?_⟩
    have := h3 p
    omega
  · exact h4 i (by omega)
theorem okk_bad1 {ps : List TF} {room : Int} {k : Nat} (hk : k < ps.length) (a : okN (elF ps k).1 = false) : ¬ OkD room ps := fun h => by
  have := (h.2.2.2 k hk).1
  rw [a] at this
  cases this
theorem okk_bad2 {ps : List TF} {room : Int} {k : Nat} {lf y : Int} (g : Okk ps room k lf y) (hk : k < ps.length) (a : okN (elF ps k).1 = true) (b : (elF ps k).1 ≤ y) : ¬ OkD room ps := fun h => by
  have n := (h.2.2.2 k hk).2
  have l : 0 ≤ (elF ps k).1 := (of_decide_eq_true a).1
  by_cases e : k = 0
  · have := g.2.1 e
    omega
  · have := g.2.2.1 (by omega)
    have := n (by omega)
    omega
theorem okk_bad3 {ps : List TF} {room : Int} {k : Nat} {lf y : Int} (g : Okk ps room k lf y) (hk : k < ps.length) (b : lf - ((elF ps k).2.1.size + (elF ps k).2.2.size) < 0) : ¬ OkD room ps := fun h => by
  have n := sumZ_next hk
  have l := sumZ_le ps (k + 1)
  have := h.2.2.1
  have := g.1
  omega
theorem names_up {ps : List TF} (h : ∀ i, i < ps.length → okAt ps i) : ∀ i : Nat, i < ps.length → (i : Int) ≤ (elF ps i).1
  | 0 => fun q => by
    have := (h 0 q).1
    exact (of_decide_eq_true this).1
  | i + 1 => fun q => by
    have := names_up h i (by omega)
    have := (h (i + 1) q).2 (by omega)
    simp only [Nat.add_sub_cancel] at this
    omega
theorem okk_all {ps : List TF} {room : Int} {lf y : Int} (g : Okk ps room ps.length lf y) (h0 : 0 ≤ room ∧ room ≤ 60000) (hl : 0 ≤ lf) : OkD room ps := by
  obtain ⟨h1, _, _, h4⟩ := g
  rw [List.take_length] at h1
  refine ⟨h0, ?_, by omega, h4⟩
  by_cases e : ps.length = 0
  · omega
  · have a := names_up h4 (ps.length - 1) (by omega)
    have b := (h4 (ps.length - 1) (by omega)).1
    have b := (of_decide_eq_true b).2
    omega
set_option maxRecDepth 100000 in
set_option maxHeartbeats 4000000 in
theorem iDiskOk (w : World) (x : Dx) (hr : RdD w x) (hz : sumZ x.ps ≤ 1048576) :
    Calls Try.prog 22 #[.agg #[.int .i64 x.room, .slice x.a x.ps.length x.c]] w fun e w' => e = .returned (.bool (decide (OkD x.room x.ps))) ∧ Below w.heap.size w w' := by
  have W0 := hide (Wd.made hr 26)
  have h20 := hr.n
  clear hr
  generalize hR : decide (OkD x.room x.ps) = R
  have HR := hide hR
  clear hR
  by_cases q0 : x.room < 0
  · obtain rfl : R = false := by rw [← unhide HR]; exact decide_eq_false (fun h => by have := h.1; omega)
    clear HR
    go_enter Try.func22, Try.ntmps22
    go_wp2
    go_ret
    exact ⟨rfl, (unhide W0).b⟩
  have d0 : decide (x.room < 0) = false := decide_eq_false q0
  by_cases q1 : x.room > 60000
  · obtain rfl : R = false := by rw [← unhide HR]; exact decide_eq_false (fun h => by have := h.1; omega)
    clear HR q0
    go_enter Try.func22, Try.ntmps22
    go_wp2
    go_ret
    exact ⟨rfl, (unhide W0).b⟩
  have d1 : decide (x.room > 60000) = false := decide_eq_false q1
  have RM := hide (show 0 ≤ x.room ∧ x.room ≤ 60000 by omega)
  have OK0 := hide (okk_0 x.ps x.room)
  clear q0 q1
  go_enter Try.func22, Try.ntmps22
  go_wp2
  go_loopw [3, 4, 20] (fun l b i wr => ∃ (k : Nat) (lf y : Int), k ≤ x.ps.length ∧ i = .int .i64 k ∧ l = .int .i64 lf ∧ b = .int .i64 y ∧ 0 ≤ lf ∧ lf ≤ 60000 ∧ Hid (Okk x.ps x.room k lf y) ∧ Hid (Wd w wr x)) (fun _ _ i _ => x.ps.length - (intOf i).toNat)
  case atStart => exact ⟨0, x.room, -1, by omega, rfl, rfl, rfl, (unhide RM).1, (unhide RM).2, OK0, W0⟩
  case round =>
    clear W0 OK0 d0 d1
    obtain ⟨k, lf, y, hk, rfl, rfl, rfl, y0, y1, HY, HW⟩ := hrel
    by_cases t : k < x.ps.length
    · have kt : (k : Int) < x.ps.length := by omega
      have NX := sumZ_next t
      have LE := sumZ_le x.ps (k + 1)
      have BAD1 := hide (fun a => okk_bad1 (room := x.room) t a)
      have BAD2 := hide (fun a b => okk_bad2 (unhide HY) t a b)
      have BAD3 := hide (fun a => okk_bad3 (unhide HY) t a)
      have GO := hide (fun a b => okk_next (unhide HY) t a b)
      obtain ⟨g, ea, lg, e0, e1, e2⟩ := cells_of (unhide HW).r t
      have c1 := (unhide HW).c1
      have lt := (unhide HW).lt
      generalize (elF x.ps k).1 = z0 at *
      generalize (elF x.ps k).2.1 = z1 at *
      generalize (elF x.ps k).2.2 = z2 at *
      have b1 : z1.size + z2.size ≤ 1048576 := by omega
      obtain ⟨lg2, hl⟩ : ∃ q, q = lf - ((z1.size : Int) + z2.size) := ⟨_, rfl⟩
      have a2 : wrap64 (lf - ((z1.size : Int) + z2.size)) = lg2 := by rw [wrap64]; omega
      have S3 := hide (fun h : ¬ lg2 < 0 => show 0 ≤ lg2 ∧ lg2 ≤ 60000 by omega)
      have BAD4 := hide (fun h : lg2 < 0 => (unhide BAD3) (by rw [← hl]; exact h))
      rw [← hl] at GO
      clear hl BAD3
      clear NX LE HY
      have IX := SCom14.ixF x.c ea t
      clear ea c1
      have OB := hide (one_more wr (.cells #[.int .i64 z0, .string z1, .string z2] 54))
      have F0 : (wr.alloc (.cells #[.int .i64 z0, .string z1, .string z2] 54)).cell? ⟨wr.heap.size, 0, none⟩ = some (.int .i64 z0) := by simp [go_sem]
      have FS : wr.heap.size < (wr.alloc (.cells #[.int .i64 z0, .string z1, .string z2] 54)).heap.size := by simp
      have F := hide (And.intro F0 FS)
      clear F0 FS
      go_wp2_with fail
      refine (iSizeF _ z0 z1 z2 b1).mono ?_
      rintro e w2 ⟨rfl, bb⟩
      have f0 := (bb.cell (p := ⟨wr.heap.size, 0, none⟩) (unhide F).2).trans (unhide F).1
      have HW2 := hide (((unhide HW).step (unhide OB)).step bb)
      clear bb OB F HW e0 e1 e2 IX
      have D := hide (fun u b h => iNameB u z0 b h)
      clear b1
      by_cases n1 : okN z0 = true
      · have N1 := hide n1
        clear n1
        by_cases n2 : z0 ≤ y
        · obtain rfl : R = false := by rw [← unhide HR]; exact decide_eq_false ((unhide BAD2) (unhide N1) n2)
          clear BAD1 BAD2 BAD4 GO HR
          go_wp2_with fail
          refine (unhide D _ true (unhide N1)).mono ?_
          rintro e u ⟨rfl, rfl⟩
          go_wp2
          go_ret
          exact ⟨rfl, (unhide HW2).b⟩
        · have n2' : decide (z0 ≤ y) = false := decide_eq_false n2
          have GO' := hide ((unhide GO) (unhide N1) (by omega))
          clear n2 GO BAD1 BAD2
          by_cases n3 : lg2 < 0
          · obtain rfl : R = false := by rw [← unhide HR]; exact decide_eq_false ((unhide BAD4) n3)
            clear BAD4 GO' HR
            go_wp2_with fail
            refine (unhide D _ true (unhide N1)).mono ?_
            rintro e u ⟨rfl, rfl⟩
            go_wp2
            go_ret
            exact ⟨rfl, (unhide HW2).b⟩
          · have n3' : decide (lg2 < 0) = false := decide_eq_false n3
            have S := hide ((unhide S3) (by omega))
            clear n3 BAD4
            go_wp2_with fail
            refine (unhide D _ true (unhide N1)).mono ?_
            rintro e u ⟨rfl, rfl⟩
            go_wp2
            go_roundw
            case rel => exact ⟨k + 1, lg2, z0, by omega, by go_num, rfl, rfl, (unhide S).1, (unhide S).2, GO', HW2⟩
            case measure => simp [intOf]; omega
      · have n1' : okN z0 = false := by simpa using n1
        obtain rfl : R = false := by rw [← unhide HR]; exact decide_eq_false ((unhide BAD1) n1')
        have N1 := hide n1'
        clear BAD1 BAD2 BAD4 GO HR n1 n1'
        go_wp2_with fail
        refine (unhide D _ false (unhide N1)).mono ?_
        rintro e u ⟨rfl, rfl⟩
        go_wp2
        go_ret
        exact ⟨rfl, (unhide HW2).b⟩
    · have e : k = x.ps.length := by omega
      have kt : ¬ (k : Int) < x.ps.length := by omega
      obtain rfl : R = true := by rw [← unhide HR]; exact decide_eq_true (okk_all (by rw [← e]; exact unhide HY) (unhide RM) y0)
      clear HY HR
      subst e
      go_wp2
      go_ret
      exact ⟨rfl, (unhide HW).b⟩
end Go.Proofs.Ytcajdiopgaoicaa.IOk14
namespace Go.Proofs.Ytcajdiopgaoicaa.IDk14
open Go.ChangeShapes Go.WideShapes Go.ChangeAt Go.RowKit Fil14 DiskH14 DkH14 SDk14 SOk14 SRd14 App14 SLess14 SCopy14 SRef14 SCom14 SPut14 TabF14
open DkH14 (row_step)
theorem pt_step {B O : Nat} {W wr wz : World} {room : Int} {L : List TF} {a : Option Addr} {m c : Nat} (h : Pt B O W wr room L a m c) (k : Below wr.heap.size wr wz) : Pt B O W wz room L a m c :=
  ⟨⟨k.os.trans h.gr.os, k.tape.trans h.gr.tape, k.output.trans h.gr.output, Nat.le_trans h.gr.size k.size, fun i hi hr => (k.block i (Nat.lt_of_lt_of_le hi h.gr.size)).trans (h.gr.block i hi hr)⟩, h.bx.below k h.bx.lt.2, row_step h.ow k⟩
set_option maxRecDepth 100000 in
set_option maxHeartbeats 4000000 in
theorem iDisk (w : World) (B n : Nat) (f : Int → Option TF) (room : Int) (hT : Tf w B n f) :
    Calls Try.prog 43 #[.map (some B), .int .i64 room] w fun e w' => ∃ y : Dx, y.room = room ∧ y.ps = rowF f ∧ e = .returned (.agg #[.int .i64 y.room, .slice y.a y.ps.length y.c]) ∧ OwD w' w.heap.size y ∧ Below w.heap.size w w' := by
  have F : ∀ W1, W1 = w.alloc (.cells #[.int .i64 0, .slice none 0 0] 26) → ∀ W2, W2 = W1.alloc (.cells #[.int .i64 room, .slice none 0 0] 26) →
      Bc W2 w.heap.size w.heap.size (.int .i64 0) (.slice none 0 0) ∧ Bc W2 w.heap.size (w.heap.size + 1) (.int .i64 room) (.slice none 0 0) ∧ Tf W2 B n f ∧ Below w.heap.size w W2 ∧ W2.heap.size = w.heap.size + 2 := by
    intro W1 h1 W2 h2
    have s1 : W1.heap.size = w.heap.size + 1 := by rw [h1]; simp
    have s2 : W2.heap.size = w.heap.size + 2 := by rw [h2]; simp [s1]
    have b1 : Below w.heap.size w W1 := by rw [h1]; exact one_more _ _
    have b2 : Below W1.heap.size W1 W2 := by rw [h2]; exact one_more _ _
    have R1 : Bc W1 w.heap.size w.heap.size (.int .i64 0) (.slice none 0 0) := by rw [h1]; exact Bc.made _ _ (Nat.le_refl _) rfl
    have O1 : Bc W2 w.heap.size (w.heap.size + 1) (.int .i64 room) (.slice none 0 0) := by rw [h2]; exact Bc.made _ _ (by omega) s1.symm
    exact ⟨R1.below b2 (by omega), O1, (hT.below b1).below b2, b1.trans (b2.mono b1.size), s2⟩
  have G0 := hide (F _ rfl _ rfl)
  have hB := hT.lt
  clear F hT
  go_enter Try.func43, Try.ntmps43
  go_wp2
  generalize (w.alloc (.cells #[.int .i64 0, .slice none 0 0] 26)).alloc (.cells #[.int .i64 room, .slice none 0 0] 26) = W at *
  obtain ⟨RB, OB, TW, BW, s3⟩ := unhide G0
  have HRB := hide RB
  have HTW := hide TW
  have HBW := hide BW
  have hO : w.heap.size + 1 < W.heap.size := by omega
  have hb : W.heap.size = w.heap.size + 2 := s3
  clear G0 RB TW BW
  go_loopw [11] (fun i wr => ∃ (k m c : Nat) (a : Option Addr), i = .int .i64 k ∧ k ≤ 22 ∧ m ≤ k ∧ Hid (Pt w.heap.size (w.heap.size + 1) W wr room (rowN f k) a m c)) (fun i _ => 22 - (intOf i).toNat)
  case atStart => exact ⟨0, 0, 0, none, rfl, by omega, by omega, hide ⟨World.grownBy.refl _ _, OB, ⟨rfl, .inl ⟨rfl, rfl⟩⟩⟩⟩
  case round =>
    clear OB
    obtain ⟨k, m, c, a, rfl, hk, hm, HPt⟩ := hrel
    have bo := (unhide HPt).bx.c1
    have lo := (unhide HPt).bx.lt.2
    have vs := (unhide HPt).gr.size
    by_cases t : k < 22
    · have kt : (k : Int) < 22 := by omega
      have WF : Wf (k : Int) := wf_low ⟨by omega, by omega⟩
      have HT := hide ((unhide HTW).kept (unhide HPt).gr (by simp; omega))
      have NX := hide (show rowN f (k + 1) = rowN f k ++ (f k).toList from rfl)
      cases hf : f k with
      | none =>
        have HP : (f k).getD z0 = (0, ByteArray.empty, ByteArray.empty) := by rw [hf]; rfl
        have HI : (f k).isSome = false := by rw [hf]; rfl
        rw [hf] at NX
        have P1 := hide (pt_step (unhide HPt) (one_more wr (.cells #[.int .i64 0, .string ByteArray.empty, .string ByteArray.empty] 54)))
        clear hf HPt bo
        go_wp2_with (first | (at_lookup; refine wp_have _ rfl _ _ rfl B n f rfl (unhide HT) k rfl WF _ false HP HI ?_) | go_in)
        go_roundw
        case rel => exact ⟨k + 1, m, c, a, by go_num, by omega, by omega, by rw [unhide NX, Option.toList_none, List.append_nil]; exact P1⟩
        case measure => simp [intOf]; omega
      | some p =>
        obtain ⟨p0, p1, p2⟩ := p
        have HP : (f k).getD z0 = (p0, p1, p2) := by rw [hf]; rfl
        have HI : (f k).isSome = true := by rw [hf]; rfl
        rw [hf] at NX
        clear hf
        have P1 := hide (pt_step (unhide HPt) (one_more wr (.cells #[.int .i64 p0, .string p1, .string p2] 54)))
        have SA : (wr.alloc (.cells #[.int .i64 p0, .string p1, .string p2] 54)).heap.size = wr.heap.size + 1 := by simp
        have q0 : (wr.alloc (.cells #[.int .i64 p0, .string p1, .string p2] 54)).cell? ⟨wr.heap.size, 0, none⟩ = some (.int .i64 p0) := by simp [go_sem]
        have q1 : (wr.alloc (.cells #[.int .i64 p0, .string p1, .string p2] 54)).cell? ⟨wr.heap.size, 1, none⟩ = some (.string p1) := by simp [go_sem]
        have q2 : (wr.alloc (.cells #[.int .i64 p0, .string p1, .string p2] 54)).cell? ⟨wr.heap.size, 2, none⟩ = some (.string p2) := by simp [go_sem]
        have LC := hide (show ∀ j v, [Value.int .i64 p0, .string p1, .string p2][j]? = some v → ((wr.alloc (.cells #[.int .i64 p0, .string p1, .string p2] 54)).alloc (.cells #[.int .i64 p0, .string p1, .string p2] 54)).cell? ⟨wr.heap.size + 1, j, none⟩ = some v by
          have h := litm (wr.alloc (.cells #[.int .i64 p0, .string p1, .string p2] 54)) [.int .i64 p0, .string p1, .string p2] 54 _ rfl
          rw [SA] at h
          exact h)
        clear SA
        have bo1 := (unhide P1).bx.c1
        have vs1 := hide (unhide P1).gr.size
        have lo1 := (unhide P1).bx.lt.2
        clear HPt bo
        go_wp2_with (first | (at_lookup; refine wp_have _ rfl _ _ rfl B n f rfl (unhide HT) k rfl WF _ true HP HI ?_) | (at_builtin; refine wp_app _ rfl _ _ rfl W.heap.size (.slice a m c) m (flatF (rowN f k)) (wr.heap.size + 1) [.int .i64 p0, .string p1, .string p2] rfl rfl (row_step (unhide P1).ow (one_more _ (.cells #[.int .i64 p0, .string p1, .string p2] 54))) rfl (unhide LC) (by simp [Value.oneCell']) (by omega) (Nat.le_trans (unhide vs1) (by simp)) ?_; intro g8 c8 u8 o8 gr8; have PA := (unhide P1).app (p := (p0, p1, p2)) hO (one_more _ (.cells #[.int .i64 p0, .string p1, .string p2] 54)) gr8 o8; have bx8 := PA.1; have b80 := bx8.c1; have b81 := bx8.free 1; have P8 := hide PA.2; clear o8 gr8 PA bx8 bo1) | go_in)
        go_roundw
        case rel => exact ⟨k + 1, m + 1, c8, some ⟨g8, 0, none⟩, by go_num, by omega, by omega, by rw [unhide NX]; exact P8⟩
        case measure => simp [intOf]; omega
    · have e : k = 22 := by omega
      subst e
      have B0 := (unhide HPt).bx.c0
      have Rk := hide ((unhide HRB).kept (unhide HPt).gr (by simp))
      have e0 := (unhide Rk).free 0
      have e1 := (unhide Rk).free 1
      have r0 := (unhide Rk).c0
      have r1 := (unhide Rk).c1
      have LM := hide (show (rowN f 22).length = m by
        have := (unhide HPt).ow.1
        rw [flatF_len] at this
        omega)
      have t0 := (unhide Rk).set0 (.int .i64 room)
      have t1 := bc_set1 t0.1 (.slice a m c)
      have ST := hide (grow_grow t0.2 t1.2)
      have BB := hide (grow_low (unhide HBW) (unhide HPt).gr (by omega))
      clear t0 t1
      go_wp2
      refine bodyPost_ret (v := .agg #[.int .i64 room, .slice a m c]) (by simp [results, Try.results43, go_sem, r0, r1]) rfl ⟨⟨room, a, c, rowN f 22⟩, rfl, rfl, by simp [unhide LM], ?_, ?_⟩
      · unfold OwD
        simp only [unhide LM]
        exact row_base (row_kept (unhide HPt).ow (unhide ST) (by omega)) (by omega)
      · exact grow_low (unhide BB) (unhide ST) (by omega)
end Go.Proofs.Ytcajdiopgaoicaa.IDk14
namespace Go.Proofs.Ytcajdiopgaoicaa.PTab14
open Fil14 DiskH14 SDk14 SOk14 SRd14 SLess14 SPut14 Pure14 TabF14
/-- A table tells just the files of a list. -/
structure Tl (f : Int → Option TF) (ps : List TF) : Prop where
  asc : Asc ps
  nam : Named ps
  iff : ∀ k q, f k = some q ↔ q ∈ ps ∧ q.1 = k
theorem tabN_hit {ps : List TF} (h : Asc ps) : ∀ k, k ≤ ps.length → ∀ i, i < k → tabN ps k (elF ps i).1 = some (elF ps i)
  | 0 => fun _ i hi => absurd hi (by omega)
  | k + 1 => fun hk i hi => by
    unfold tabN upd
    by_cases e : i = k
    · subst e
      rw [if_pos rfl]
    · have := asc_lt h (i := i) (j := k) (by omega) (by omega)
      rw [if_neg (by omega)]
      exact tabN_hit h k (by omega) i (by omega)
theorem tabN_in {ps : List TF} : ∀ k, k ≤ ps.length → ∀ j q, tabN ps k j = some q → q ∈ ps ∧ q.1 = j
  | 0 => fun _ j q e => by simp [tabN] at e
  | k + 1 => fun hk j q e => by
    unfold tabN upd at e
    by_cases c : j = (elF ps k).1
    · rw [if_pos c] at e
      have e' : elF ps k = q := by simpa using e
      rw [← e']
      exact ⟨elF_mem (by omega), c.symm⟩
    · rw [if_neg c] at e
      exact tabN_in k (by omega) j q e
theorem tl_tab {ps : List TF} (h : Asc ps) (hn : Named ps) : Tl (tabOf ps) ps := by
  refine ⟨h, hn, fun k q => ⟨fun e => tabN_in _ (Nat.le_refl _) k q e, fun ⟨m, e⟩ => ?_⟩⟩
  obtain ⟨i, hi, rfl⟩ := mem_elF m
  rw [← e]
  exact tabN_hit h _ (Nat.le_refl _) i hi
theorem row_mem {f : Int → Option TF} (p : TF) : ∀ n, p ∈ rowN f n ↔ ∃ k : Nat, k < n ∧ f k = some p
  | 0 => by simp [rowN]
  | n + 1 => by
    rw [rowN, List.mem_append, row_mem p n]
    constructor
    · rintro (⟨k, a, b⟩ | h)
      · exact ⟨k, by omega, b⟩
      · exact ⟨n, by omega, by simpa using h⟩
    · rintro ⟨k, a, b⟩
      by_cases e : k = n
      · subst e
        exact .inr (by simpa using b)
      · exact .inl ⟨k, by omega, b⟩
theorem row_asc {f : Int → Option TF} (h : ∀ k q, f k = some q → q.1 = k) : ∀ n, Asc (rowN f n)
  | 0 => by simp [rowN, Asc]
  | n + 1 => by
    unfold Asc rowN
    rw [List.pairwise_append]
    refine ⟨row_asc h n, ?_, fun p hp q hq => ?_⟩
    · cases f n <;> simp
    · obtain ⟨k, a, b⟩ := (row_mem p n).1 hp
      have e1 := h _ _ b
      have e2 := h n q (by simpa using hq)
      omega
theorem asc_ext : ∀ {l r : List TF}, Asc l → Asc r → (∀ p, p ∈ l ↔ p ∈ r) → l = r
  | [], [] => fun _ _ _ => rfl
  | [], b :: r => fun _ _ h => absurd ((h b).2 (by simp)) (by simp)
  | a :: l, [] => fun _ _ h => absurd ((h a).1 (by simp)) (by simp)
  | a :: l, b :: r => fun ha hb h => by
    unfold Asc at ha hb
    rw [List.pairwise_cons] at ha hb
    have e : a = b := by
      have h1 := (h a).1 (by simp)
      have h2 := (h b).2 (by simp)
      simp only [List.mem_cons] at h1 h2
      rcases h1 with h1 | h1
      · exact h1
      · rcases h2 with h2 | h2
        · exact h2.symm
        · have := ha.1 b h2
          have := hb.1 a h1
          omega
    subst e
    rw [asc_ext ha.2 hb.2 (fun p => ?_)]
    have := h p
    simp only [List.mem_cons] at this
    constructor
    · intro m
      rcases this.1 (.inr m) with e | e
      · subst e
        have := ha.1 p m
        omega
      · exact e
    · intro m
      rcases this.2 (.inr m) with e | e
      · subst e
        have := hb.1 p m
        omega
      · exact e
theorem tl_row {f : Int → Option TF} {ps : List TF} (h : Tl f ps) : rowF f = ps := by
  refine asc_ext (row_asc (fun k q e => ((h.iff k q).1 e).2) 22) h.asc (fun p => ?_)
  unfold rowF at *
  rw [row_mem]
  constructor
  · rintro ⟨k, _, e⟩
    exact ((h.iff k p).1 e).1
  · intro m
    have n := h.nam p m
    exact ⟨p.1.toNat, by omega, (h.iff _ _).2 ⟨m, by omega⟩⟩
/-- A file that is not there. -/
theorem tl_no {f : Int → Option TF} {ps : List TF} (h : Tl f ps) {nm : Int} (e : findF ps nm < 0) : f nm = none := by
  cases q : f nm with
  | none => rfl
  | some p =>
    have := (h.iff nm p).1 q
    exact absurd this.2 (find_neg e p this.1)
/-- A file that is there. -/
theorem tl_yes {f : Int → Option TF} {ps : List TF} (h : Tl f ps) {nm : Int} {k : Nat} (hk : k < ps.length) (e : (elF ps k).1 = nm) : f nm = some (elF ps k) := (h.iff _ _).2 ⟨elF_mem hk, e⟩
theorem tl_ok {room : Int} {ps : List TF} (h : OkD room ps) : Tl (tabOf ps) ps := tl_tab (asc_of h).1 (asc_of h).2
theorem wf_names {room : Int} {ps : List TF} (h : OkD room ps) : ∀ i, i < ps.length → Wf (elF ps i).1 := fun i hi => wf_ok (h.2.2.2 i hi).1
theorem el_size {ps : List TF} (hz : sumZ ps ≤ 1048576) {k : Nat} (hk : k < ps.length) : (elF ps k).2.1.size + (elF ps k).2.2.size ≤ 1048576 := by
  have := sumZ_next hk
  have := sumZ_le ps (k + 1)
  omega
end Go.Proofs.Ytcajdiopgaoicaa.PTab14
namespace Go.Proofs.Ytcajdiopgaoicaa.ICom14
open Go.ChangeShapes Go.WideShapes Go.ChangeAt Go.RowKit Fil14 DiskH14 DkH14 SDk14 SOk14 SRd14 SLess14 SCom14 TabF14 ITb14
theorem iOkB (w : World) (x : Dx) (b : Bool) (hr : RdD w x) (hz : sumZ x.ps ≤ 1048576) (h : decide (OkD x.room x.ps) = b) : Calls Try.prog 22 #[.agg #[.int .i64 x.room, .slice x.a x.ps.length x.c]] w fun e w' => e = .returned (.bool b) ∧ Below w.heap.size w w' := by
  rw [← h]
  exact IOk14.iDiskOk w x hr hz
/-- A world in which a call has its disk in a box, its answer in the next one and a table of files behind them. -/
structure St (w u : World) (x : Dx) (B n : Nat) (f : Int → Option TF) : Prop where
  d : Wd w u x
  r : Bc u w.heap.size (w.heap.size + 1) (.int .i64 0) (.slice none 0 0)
  t : Tf u B n f
  b : w.heap.size + 2 ≤ B
  xa : ∀ g, x.a = some ⟨g, 0, none⟩ → g < w.heap.size
theorem St.step {w u u' : World} {x : Dx} {B n : Nat} {f : Int → Option TF} (h : St w u x B n f) (k : Below u.heap.size u u') : St w u' x B n f :=
  ⟨h.d.step k, h.r.below k h.r.lt.2, h.t.below k, h.b, h.xa⟩
theorem St.turn {w u u' : World} {x : Dx} {B n n' : Nat} {f f' : Int → Option TF} (h : St w u x B n f) (t : Tf u' B n' f') (g : u.grownBy u' (some B)) : St w u' x B n' f' := by
  have hb := h.b
  exact ⟨wd_grown h.d g (by omega) (fun k e => by have := h.xa k e; omega), h.r.kept g (by simp; omega), t, hb, h.xa⟩
end Go.Proofs.Ytcajdiopgaoicaa.ICom14
namespace Go.Proofs.Ytcajdiopgaoicaa.IClear15
open Go.ChangeShapes Go.WideShapes Go.ChangeAt Go.RowKit Fil14 DiskH14 DkH14 SDk14 SOk14 SRd14 SCom14 SegP15 SClear15 Pure14 TabF14 PTab14 ITb14 IDk14 ICom14
/-- The files that stay when the first k segments have been asked for. -/
def clrN (ps : List TF) (ks : List Int) (k : Int) : List TF := ps.filter (fun p => !decide (0 ≤ p.1 ∧ p.1 < k) || ks.contains p.1)
theorem clr_zero (ps : List TF) (ks : List Int) : clrN ps ks 0 = ps := by
  unfold clrN
  rw [List.filter_eq_self]
  intro p _
  have : decide (0 ≤ p.1 ∧ p.1 < 0) = false := decide_eq_false (by omega)
  rw [this]
  rfl
theorem clr_all (ps : List TF) (ks : List Int) : clrN ps ks 20 = ps.filter (stays ks) := by
  unfold clrN
  congr 1
  funext p
  unfold stays okS
  have : decide (0 ≤ p.1 ∧ p.1 < 20) = decide (0 ≤ p.1 ∧ p.1 ≤ 19) := decide_eq_decide.2 (by omega)
  rw [this]
theorem clr_tl {f : Int → Option TF} {ps : List TF} (ks : List Int) {k k' : Int} (h : Tl f (clrN ps ks k)) (g : Int → Option TF) (hf : ∀ j q, g j = some q ↔ q ∈ clrN ps ks k' ∧ q.1 = j) (ha : Asc ps) (hn : Named ps) : Tl g (clrN ps ks k') :=
  ⟨List.Pairwise.filter _ ha, fun p hp => hn p (List.mem_filter.1 hp).1, hf⟩
theorem clr_next {f : Int → Option TF} {ps : List TF} {ks : List Int} {k : Int} (ha : Asc ps) (hn : Named ps) (hk : 0 ≤ k) (h : Tl f (clrN ps ks k)) (b : ks.contains k = false) : Tl (upd f k none) (clrN ps ks (k + 1)) := by
  refine clr_tl ks h _ (fun j q => ?_) ha hn
  unfold upd
  by_cases e : j = k
  · rw [if_pos e]
    refine ⟨fun q => by simp at q, fun ⟨m, e2⟩ => ?_⟩
    have m2 := (List.mem_filter.1 m).2
    have e3 : q.1 = k := e2.trans e
    simp only [e3, b] at m2
    have : decide (0 ≤ k ∧ k < k + 1) = true := decide_eq_true (by omega)
    rw [this] at m2
    simp at m2
  · rw [if_neg e, h.iff]
    unfold clrN
    rw [List.mem_filter, List.mem_filter]
    constructor
    · rintro ⟨⟨m, t⟩, e2⟩
      refine ⟨⟨m, ?_⟩, e2⟩
      rw [show decide (0 ≤ q.1 ∧ q.1 < k + 1) = decide (0 ≤ q.1 ∧ q.1 < k) from decide_eq_decide.2 (by omega)]
      exact t
    · rintro ⟨⟨m, t⟩, e2⟩
      refine ⟨⟨m, ?_⟩, e2⟩
      rw [show decide (0 ≤ q.1 ∧ q.1 < k) = decide (0 ≤ q.1 ∧ q.1 < k + 1) from decide_eq_decide.2 (by omega)]
      exact t
theorem clr_keep {f : Int → Option TF} {ps : List TF} {ks : List Int} {k : Int} (ha : Asc ps) (hn : Named ps) (h : Tl f (clrN ps ks k)) (b : ks.contains k = true) : Tl f (clrN ps ks (k + 1)) := by
  have e : clrN ps ks (k + 1) = clrN ps ks k := by
    unfold clrN
    congr 1
    funext p
    by_cases e : p.1 = k
    · rw [e, b]
      simp
    · rw [show decide (0 ≤ p.1 ∧ p.1 < k + 1) = decide (0 ≤ p.1 ∧ p.1 < k) from decide_eq_decide.2 (by omega)]
  rw [e]
  exact h
set_option maxRecDepth 100000 in
theorem iIndexI (w : World) (g n cap : Nat) (xs : List Int) (x : Int) (b : Bool) (hl : xs.length = n) (h20 : n ≤ 1048576) (h : Ints.At w g xs) (hb : xs.contains x = b) :
    Calls Try.prog 70 #[.slice (some ⟨g, 0, none⟩) n cap, .int .i64 x] w fun e w' => ∃ r : Int, decide (r ≥ 0) = b ∧ e = .returned (.int .i64 r) ∧ w' = w := by
  have IFF : ∀ k, k < n → xs.getD k 0 = x → b = true := fun k hk e => by
    rw [← hb, List.contains_iff_mem, ← e]
    have : k < xs.length := by omega
    simp only [List.getD, List.getElem?_eq_getElem this, Option.getD_some]
    exact List.getElem_mem this
  have NO : (∀ k, k < n → xs.getD k 0 ≠ x) → b = false := fun q => by
    rw [← hb]
    cases e : xs.contains x with
    | false => rfl
    | true =>
      rw [List.contains_iff_mem] at e
      obtain ⟨i, hi, e⟩ := List.getElem_of_mem e
      exact absurd (by simp [List.getD, hi, e]) (q i (by omega))
  have HI := hide IFF
  have HN := hide NO
  have HA := hide h
  clear IFF NO h hb
  go_enter Try.func70, Try.ntmps70
  go_wp2
  go_loop [8] (fun j => ∃ (k : Nat), k ≤ n ∧ j = .int .i64 k ∧ Hid (∀ i, i < k → xs.getD i 0 ≠ x)) (fun j => n - (intOf j).toNat)
  case atStart => exact ⟨0, by omega, rfl, hide (fun i hi => by omega)⟩
  case round =>
    obtain ⟨k, hk, rfl, HG⟩ := hrel
    by_cases t : k < n
    · have e1 := (unhide HA) k (by omega)
      have YES := hide ((unhide HI) k t)
      have GO := hide (show xs.getD k 0 ≠ x → ∀ i, i < k + 1 → xs.getD i 0 ≠ x from fun hn i hi => by
        by_cases e : i = k
        · subst e; exact hn
        · exact (unhide HG) i (by omega))
      generalize xs.getD k 0 = y at *
      by_cases c1 : y = x
      · obtain rfl : b = true := (unhide YES) c1
        clear YES GO
        subst c1
        go_wp2
        go_ret
        exact ⟨k, by first | (exact decide_eq_true (by omega)) | (simp; done) | omega, rfl, rfl⟩
      · have G := hide ((unhide GO) c1)
        have c1b : (x == y) = false := by simpa using fun e => c1 e.symm
        clear YES GO
        go_wp2
        go_round
        case rel => exact ⟨k + 1, by omega, by go_num, G⟩
        case measure => simp [intOf]; omega
    · obtain rfl : k = n := by omega
      obtain rfl : b = false := (unhide HN) (unhide HG)
      go_wp2
      go_ret
      exact ⟨-1, by decide, rfl, rfl⟩
theorem iContains (w : World) (g n cap : Nat) (xs : List Int) (x : Int) (b : Bool) (hl : xs.length = n) (h20 : n ≤ 1048576) (h : Ints.At w g xs) (hb : xs.contains x = b) :
    Calls Try.prog 42 #[.slice (some ⟨g, 0, none⟩) n cap, .int .i64 x] w fun e w' => e = .returned (.bool b) ∧ w' = w := by
  have IX := hide (fun u => iIndexI u g n cap xs x b hl h20)
  have HA := hide h
  have HB := hide hb
  clear h hb hl
  go_enter Try.func42, Try.ntmps42
  go_wp2_with fail
  refine (unhide IX _ (unhide HA) (unhide HB)).mono ?_
  rintro e u ⟨r, hr, rfl, rfl⟩
  go_wp2
  go_ret
  exact ⟨by rw [← hr]; rfl, rfl⟩
set_option maxRecDepth 100000 in
set_option maxHeartbeats 4000000 in
theorem iSegsClear (w : World) (x : Dx) (gk ck : Nat) (ks : List Int) (hr : RdD w x) (hz : sumZ x.ps ≤ 1048576) (hg : gk < w.heap.size) (hk20 : ks.length ≤ 1048576) (ha : Ints.At w gk ks) :
    Calls Try.prog 16 #[.agg #[.int .i64 x.room, .slice x.a x.ps.length x.c], .slice (some ⟨gk, 0, none⟩) ks.length ck] w fun e w' => ∃ y : Dx, (y.room, y.ps) = clearD x.room x.ps ks ∧ e = .returned (.agg #[.int .i64 y.room, .slice y.a y.ps.length y.c]) ∧ OwD w' w.heap.size y ∧ Below w.heap.size w w' := by
  have G0 := hide (begunD hr)
  have s2 : ((w.alloc (.cells #[.int .i64 x.room, .slice x.a x.ps.length x.c] 26)).alloc (.cells #[.int .i64 0, .slice none 0 0] 26)).heap.size = w.heap.size + 2 := by simp
  have OK0 := hide (fun b h => iOkB _ x b (unhide G0).1.r hz h)
  have XA := hide (fun g e => (hr.r g e).1)
  have AK0 := hide ha
  have h20 := hr.n
  clear hr ha
  by_cases ok : OkD x.room x.ps
  case neg =>
    have E := hide (show clearD x.room x.ps ks = (0, []) by unfold clearD; rw [if_neg (fun h => ok h.1)])
    generalize clearD x.room x.ps ks = rr at *
    have OKD := hide (decide_eq_false ok)
    clear ok
    go_enter Try.func16, Try.ntmps16
    go_wp2_with fail
    refine ((unhide OK0) false (unhide OKD)).mono ?_
    rintro e u ⟨rfl, b1⟩
    have R2 := hide ((unhide G0).2.below b1 (by omega))
    have WU := hide ((unhide G0).1.step b1)
    have us := b1.size
    rw [s2] at us
    clear b1 G0 OK0 s2
    have EN := hide (endedD (y := ⟨0, none, 0, []⟩) (base0 := w.heap.size + 2) (unhide WU).b (unhide R2) ⟨rfl, .inl ⟨rfl, rfl⟩⟩ (by omega))
    have f0 := (unhide R2).free 0
    have f1 := (unhide R2).free 1
    have r0 := (unhide R2).c0
    have r1 := (unhide R2).c1
    go_wp2
    refine bodyPost_ret (v := .agg #[.int .i64 0, .slice none 0 0]) (by simp [results, Try.results16, go_sem, r0, r1]) rfl ?_
    rw [unhide E]
    exact ⟨⟨0, none, 0, []⟩, rfl, rfl, (unhide EN).1, (unhide EN).2⟩
  have OKD := hide (decide_eq_true ok)
  have OK := hide ok
  by_cases hk : ks.length ≤ 20
  case neg =>
    have E := hide (show clearD x.room x.ps ks = (0, []) by unfold clearD; rw [if_neg (fun h => hk h.2)])
    have kd : (ks.length : Int) > 20 := by omega
    generalize clearD x.room x.ps ks = rr at *
    clear ok hk
    go_enter Try.func16, Try.ntmps16
    go_wp2_with fail
    refine ((unhide OK0) true (unhide OKD)).mono ?_
    rintro e u ⟨rfl, b1⟩
    have R2 := hide ((unhide G0).2.below b1 (by omega))
    have WU := hide ((unhide G0).1.step b1)
    have us := b1.size
    rw [s2] at us
    clear b1 G0 OK0 s2
    have EN := hide (endedD (y := ⟨0, none, 0, []⟩) (base0 := w.heap.size + 2) (unhide WU).b (unhide R2) ⟨rfl, .inl ⟨rfl, rfl⟩⟩ (by omega))
    have f0 := (unhide R2).free 0
    have f1 := (unhide R2).free 1
    have r0 := (unhide R2).c0
    have r1 := (unhide R2).c1
    go_wp2
    refine bodyPost_ret (v := .agg #[.int .i64 0, .slice none 0 0]) (by simp [results, Try.results16, go_sem, r0, r1]) rfl ?_
    rw [unhide E]
    exact ⟨⟨0, none, 0, []⟩, rfl, rfl, (unhide EN).1, (unhide EN).2⟩
  have E := hide (show clearD x.room x.ps ks = (x.room, x.ps.filter (stays ks)) by unfold clearD; rw [if_pos ⟨ok, hk⟩])
  have AN := hide (asc_of ok)
  have TL0 := hide (show Tl (tabOf x.ps) (clrN x.ps ks 0) by rw [clr_zero]; exact tl_ok ok)
  have kd : ¬ (ks.length : Int) > 20 := by omega
  generalize clearD x.room x.ps ks = rr at *
  clear ok hk
  go_enter Try.func16, Try.ntmps16
  go_wp2_with fail
  refine ((unhide OK0) true (unhide OKD)).mono ?_
  rintro e u ⟨rfl, b1⟩
  have R2 := hide ((unhide G0).2.below b1 (by omega))
  have AK1 := hide (show Ints.At u gk ks from fun i hi => (((unhide G0).1.b.trans (b1.mono (by omega))).cell (p := ⟨gk, i, none⟩) hg).trans ((unhide AK0) i hi))
  have WU := hide ((unhide G0).1.step b1)
  have us := b1.size
  rw [s2] at us
  clear b1 G0 OK0 s2 AK0
  have c0 := (unhide WU).c0
  have c1 := (unhide WU).c1
  have lt := (unhide WU).lt
  go_wp2_with fail
  refine (iTable _ x (unhide WU).r (wf_names (unhide OK))).mono ?_
  rintro e u1 ⟨rfl, tt, b2⟩
  have S1 := hide (show St w u1 x (u.heap.size + 1) x.ps.length (tabOf x.ps) from ⟨(unhide WU).step b2, (unhide R2).below b2 (unhide R2).lt.2, tt, by omega, unhide XA⟩)
  have AK2 := hide (show Ints.At u1 gk ks from fun i hi => (b2.cell (p := ⟨gk, i, none⟩) (by show gk < u.heap.size; omega)).trans ((unhide AK1) i hi))
  have us1 := b2.size
  clear tt b2 WU R2 c0 c1 lt AK1
  have gB : gk < u.heap.size + 1 := by omega
  have wB : w.heap.size + 2 ≤ u.heap.size + 1 := by omega
  generalize u.heap.size + 1 = B at *
  clear us us1
  go_wp2
  go_loopw [18] (fun i wr => ∃ (k : Nat) (f : Int → Option TF), k ≤ 20 ∧ i = .int .i64 k ∧ Hid (Tl f (clrN x.ps ks k)) ∧ Hid (St w wr x B x.ps.length f) ∧ Hid (Ints.At wr gk ks)) (fun i _ => 20 - (intOf i).toNat)
  case atStart => exact ⟨0, tabOf x.ps, by omega, rfl, TL0, S1, AK2⟩
  case round =>
    clear S1 AK2 TL0
    obtain ⟨k, f, hk, rfl, HL, HS, HA⟩ := hrel
    by_cases t : k < 20
    · have tb : (k : Int) < 20 := by omega
      have gl : gk < wr.heap.size := by have := (unhide HS).t.lt; omega
      have WF := hide (wf_low (n := (k : Int)) ⟨by omega, by omega⟩)
      obtain ⟨b, hb⟩ : ∃ b, ks.contains (k : Int) = b := ⟨_, rfl⟩
      have HB := hide hb
      clear hb
      go_wp2_with fail
      refine (iContains wr gk ks.length ck ks k b rfl hk20 (unhide HA) (unhide HB)).mono ?_
      rintro e wr ⟨rfl, rfl⟩
      cases b with
      | true =>
        have HL9 := hide (clr_keep (unhide AN).1 (unhide AN).2 (unhide HL) (unhide HB))
        clear HL HB
        go_wp2
        go_roundw
        case rel => exact ⟨k + 1, f, by omega, by go_num, HL9, HS, HA⟩
        case measure => simp [intOf]; omega
      | false =>
        have HL9 := hide (clr_next (unhide AN).1 (unhide AN).2 (by omega) (unhide HL) (unhide HB))
        clear HL HB
        go_wp2_with (first | (at_delete; refine wp_del _ rfl _ _ rfl B _ _ rfl (unhide HS).t (k : Int) rfl (unhide WF) ?_; intro u3 t3 g3; have S3 := hide ((unhide HS).turn t3 g3); have A3 := hide (show Ints.At u3 gk ks from fun i hi => (App14.kcell g3 i gl (by omega)).trans ((unhide HA) i hi)); clear t3 g3 HS HA) | fail)
        go_roundw
        case rel => exact ⟨k + 1, _, by omega, by go_num, HL9, S3, A3⟩
        case measure => simp [intOf]; omega
    · have e : k = 20 := by omega
      subst e
      have ROW := hide (show rowF f = x.ps.filter (stays ks) by rw [tl_row (unhide HL)]; exact clr_all _ _)
      have c0 := (unhide HS).d.c0
      have c1 := (unhide HS).d.c1
      have lt := (unhide HS).d.lt
      clear HL t
      go_wp2_with fail
      refine (iDisk _ B _ _ x.room (unhide HS).t).mono ?_
      rintro e u9 ⟨y, hy0, hy, rfl, oy, b9⟩
      have R9 := hide ((unhide HS).r.below b9 (unhide HS).r.lt.2)
      have HY := hide (show (y.room, y.ps) = (x.room, x.ps.filter (stays ks)) by rw [hy0, hy, unhide ROW])
      have sz9 := (unhide HS).r.lt.2
      have EN := hide (endedD ((unhide HS).d.b.trans (b9.mono (unhide HS).d.b.size)) (unhide R9) oy (by omega))
      have f0 := (unhide R9).free 0
      have f1 := (unhide R9).free 1
      have r0 := (unhide R9).c0
      have r1 := (unhide R9).c1
      clear b9 oy hy0 hy c0 c1 lt
      go_wp2
      refine bodyPost_ret (v := .agg #[.int .i64 y.room, .slice y.a y.ps.length y.c]) (by simp [results, Try.results16, go_sem, r0, r1]) rfl ?_
      rw [unhide E]
      exact ⟨y, unhide HY, rfl, (unhide EN).1, (unhide EN).2⟩
end Go.Proofs.Ytcajdiopgaoicaa.IClear15
namespace Go.Proofs.Ytcajdiopgaoicaa.ISg15
open Go.ChangeShapes Go.WideShapes Go.ChangeAt Go.RowKit Fil14 DiskH14 DkH14 SDk14 SOk14 SegP15
set_option maxRecDepth 100000 in
theorem iSeg (w : World) (n : Int) : Calls Try.prog 24 #[.int .i64 n] w fun e w' => e = .returned (.bool (okS n)) ∧ w' = w := by
  unfold okS
  by_cases h0 : 0 ≤ n
  · by_cases h1 : n ≤ 19
    · rw [decide_eq_true ⟨h0, h1⟩]
      have a : n ≥ 0 := h0
      have b : n < 20 := by omega
      clear h1
      go_enter Try.func24, Try.ntmps24
      go_wp2
      go_ret
      exact ⟨rfl, rfl⟩
    · rw [decide_eq_false (fun q => h1 q.2)]
      have a : n ≥ 0 := h0
      have b : ¬ n < 20 := by omega
      clear h1
      go_enter Try.func24, Try.ntmps24
      go_wp2
      go_ret
      exact ⟨rfl, rfl⟩
  · rw [decide_eq_false (fun q => h0 q.1)]
    have a : ¬ n ≥ 0 := h0
    go_enter Try.func24, Try.ntmps24
    go_wp2
    go_ret
    exact ⟨rfl, rfl⟩
theorem iSegOk (w : World) (n : Int) (b : Bool) (h : okS n = b) : Calls Try.prog 24 #[.int .i64 n] w fun e w' => e = .returned (.bool b) ∧ w' = w := by
  rw [← h]
  exact iSeg w n
end Go.Proofs.Ytcajdiopgaoicaa.ISg15
namespace Go.Proofs.Ytcajdiopgaoicaa.IFrom15
open Go.ChangeShapes Go.WideShapes Go.ChangeAt Go.RowKit Fil14 DiskH14 DkH14 SDk14 SOk14 SRd14 SegP15 SSeg15 SFrom15 ISg15 TabF14 PTab14 ITb14 ICom14
open App14 (kcell)
open SLess14 (grow_low)
theorem iBehind (w : World) (n : Int) (h : 0 ≤ n ∧ n ≤ 19) : Calls Try.prog 49 #[.int .i64 n] w fun e w' => e = .returned (.int .i64 ((n + 1) % 20)) ∧ w' = w := by
  have a1 : wrap64 (n + 1) = n + 1 := by rw [wrap64]; omega
  have E : wrap64 ((n + 1).tmod 20) = (n + 1) % 20 := by rw [Int.tmod_eq_emod_of_nonneg (by omega), wrap64]; omega
  go_enter Try.func49, Try.ntmps49
  go_wp2
  go_ret
  exact ⟨by first | rfl | (congr 2; first | exact E | (rw [Int.tmod_eq_emod_of_nonneg (by omega)])), rfl⟩
/-- A table that nothing was written into, where a list of the call's own has grown. -/
theorem tab_grown {wr wz : World} {B n g : Nat} {f : Int → Option TF} (h : Tf wr B n f) (k : wr.grownBy wz (some g)) (ne : B ≠ g) : Tf wz B n f := h.kept k (by simpa using ne)
set_option maxRecDepth 100000 in
set_option maxHeartbeats 4000000 in
theorem iSegsFrom (w : World) (x : Dx) (s : Int) (hr : RdD w x) (hz : sumZ x.ps ≤ 1048576) (hw : TabF14.Wf s) : Calls Try.prog 21 #[.agg #[.int .i64 x.room, .slice x.a x.ps.length x.c], .int .i64 s] w fun e w' => ∃ a c, e = .returned (.slice a (fromD x.room x.ps s).length c) ∧ VOI.Ob w' w.heap.size a (fromD x.room x.ps s).length c (fromD x.room x.ps s) ∧ Below w.heap.size w w' := by
  have F : ∀ W1, W1 = w.alloc (.cells #[.int .i64 x.room, .slice x.a x.ps.length x.c] 26) → ∀ W2, W2 = W1.alloc (.cells #[] 3) → Wd w W2 x ∧ Ints.Own W2 w.heap.size (w.heap.size + 1) 0 0 [] ∧ W2.heap.size = w.heap.size + 2 := by
    intro W1 h1 W2 h2
    have s1 : W1.heap.size = w.heap.size + 1 := by rw [h1]; simp
    have s2 : W2.heap.size = w.heap.size + 2 := by rw [h2]; simp [s1]
    have d1 : Wd w W1 x := by rw [h1]; exact Wd.made hr _
    have b2 : Below W1.heap.size W1 W2 := by rw [h2]; exact one_more _ _
    have o : Ints.Own (W1.alloc (.cells #[] 3)) w.heap.size W1.heap.size 0 0 [] := World.ownsRow_lit W1 #[] 0 (by omega) (by decide) rfl
    rw [s1, ← h2] at o
    exact ⟨d1.step b2, o, s2⟩
  have G0 := hide (F _ rfl _ rfl)
  have OK0 := hide (fun u b (h : RdD u x) e => iOkB u x b h hz e)
  have RE := hide (show fromD x.room x.ps s = if OkD x.room x.ps ∧ okS s = true then (fromS x.ps s 20).1 else [] from rfl)
  generalize fromD x.room x.ps s = rr at *
  clear F hr
  by_cases ok : OkD x.room x.ps
  case neg =>
    obtain rfl : rr = [] := by rw [unhide RE, if_neg (fun h => ok h.1)]
    have OKD := hide (decide_eq_false ok)
    clear RE ok
    go_enter Try.func21, Try.ntmps21
    go_wp2_with fail
    generalize (w.alloc (.cells #[.int .i64 x.room, .slice x.a x.ps.length x.c] 26)).alloc (.cells #[] 3) = W at *
    refine (unhide OK0 _ false (unhide G0).1.r (unhide OKD)).mono ?_
    rintro e u ⟨rfl, b1⟩
    have OU := hide ((unhide G0).2.1.below b1 (by have := (unhide G0).2.2; omega))
    have WU := hide ((unhide G0).1.step b1)
    clear b1
    go_wp2
    go_ret
    exact ⟨some ⟨w.heap.size + 1, 0, none⟩, 0, rfl, .of (unhide OU), (unhide WU).b⟩
  have OKD := hide (decide_eq_true ok)
  have OK := hide ok
  cases sk : okS s with
  | false =>
    obtain rfl : rr = [] := by rw [unhide RE, if_neg (fun h => by rw [sk] at h; simp at h)]
    have SK := hide sk
    clear RE sk ok
    go_enter Try.func21, Try.ntmps21
    go_wp2_with fail
    generalize (w.alloc (.cells #[.int .i64 x.room, .slice x.a x.ps.length x.c] 26)).alloc (.cells #[] 3) = W at *
    refine (unhide OK0 _ true (unhide G0).1.r (unhide OKD)).mono ?_
    rintro e u ⟨rfl, b1⟩
    have OU := hide ((unhide G0).2.1.below b1 (by have := (unhide G0).2.2; omega))
    have WU := hide ((unhide G0).1.step b1)
    clear b1
    go_wp2_with fail
    refine (iSegOk _ s false (unhide SK)).mono ?_
    rintro e u ⟨rfl, rfl⟩
    go_wp2
    go_ret
    exact ⟨some ⟨w.heap.size + 1, 0, none⟩, 0, rfl, .of (unhide OU), (unhide WU).b⟩
  | true =>
    have RR := hide (show rr = (fromS x.ps s 20).1 by rw [unhide RE, if_pos ⟨ok, sk⟩])
    have SK := hide sk
    have s19 : 0 ≤ s ∧ s ≤ 19 := of_decide_eq_true sk
    have S0 := hide (show fromS x.ps s 0 = ([], s, true) from rfl)
    have TL := hide (tl_ok ok)
    have LK := hide (show ∀ p, (findF x.ps p < 0 ∧ tabOf x.ps p = none) ∨ (0 ≤ findF x.ps p ∧ ∃ q : TF, tabOf x.ps p = some q) from fun p => by
      by_cases q : findF x.ps p < 0
      · exact .inl ⟨q, tl_no (unhide TL) q⟩
      · obtain ⟨k, ek, kl, en⟩ := findF_in (ps := x.ps) (nm := p) (by omega)
        exact .inr ⟨by omega, _, tl_yes (unhide TL) kl en⟩)
    clear RE sk ok TL
    go_enter Try.func21, Try.ntmps21
    go_wp2_with fail
    generalize (w.alloc (.cells #[.int .i64 x.room, .slice x.a x.ps.length x.c] 26)).alloc (.cells #[] 3) = W at *
    refine (unhide OK0 _ true (unhide G0).1.r (unhide OKD)).mono ?_
    rintro e u ⟨rfl, b1⟩
    have OU := hide ((unhide G0).2.1.below b1 (by have := (unhide G0).2.2; omega))
    have WU := hide ((unhide G0).1.step b1)
    have us := b1.size
    rw [(unhide G0).2.2] at us
    clear b1 OK0 G0
    go_wp2_with fail
    refine (iSegOk _ s true (unhide SK)).mono ?_
    rintro e u ⟨rfl, rfl⟩
    have c0 := (unhide WU).c0
    have c1 := (unhide WU).c1
    have lt := (unhide WU).lt
    go_wp2_with fail
    refine (iTable _ x (unhide WU).r (wf_names (unhide OK))).mono ?_
    rintro e u1 ⟨rfl, tt, b2⟩
    have O1 := hide ((unhide OU).below b2 (unhide OU).lt.2)
    have T1 := hide tt
    have B1 := hide ((unhide WU).b.trans (b2.mono (unhide WU).b.size))
    clear tt b2 OU WU c0 c1 lt
    have TB : w.heap.size + 1 < u.heap.size + 1 := by omega
    generalize u.heap.size + 1 = B at *
    clear us
    go_wp2
    go_loopw [5, 7, 23] (fun o f i wr => ∃ (j g c : Nat) (l : List Int) (p : Int), o = .slice (some ⟨g, 0, none⟩) j c ∧ f = .int .i64 p ∧ i = .int .i64 j ∧ j ≤ 20 ∧ 0 ≤ p ∧ p ≤ 19 ∧ g ≠ B ∧ Hid (fromS x.ps s j = (l, p, true)) ∧ Hid (Ints.Own wr w.heap.size g j c l) ∧ Hid (Tf wr B x.ps.length (tabOf x.ps)) ∧ Hid (Below w.heap.size w wr)) (fun o _ _ _ => 20 - (match o with | .slice _ n _ => n | _ => 0))
    case atStart => exact ⟨0, w.heap.size + 1, 0, [], s, rfl, rfl, rfl, by omega, s19.1, s19.2, by omega, S0, O1, T1, B1⟩
    case round =>
      clear S0 O1 T1 B1 s19
      obtain ⟨j, g, c, l, p, rfl, rfl, rfl, hj, p0, p1, gn, HS, HO, HT, HB⟩ := hrel
      by_cases j6 : j < 20
      case neg =>
        have jb : decide ((j : Int) < 20) = false := decide_eq_false (by omega)
        have E := hide (show rr = l ∧ l.length = j by
          refine ⟨?_, fromS_all (unhide HS)⟩
          obtain rfl : j = 20 := by omega
          rw [unhide RR, unhide HS])
        clear j6
        go_wp2
        go_ret
        rw [(unhide E).1]
        exact ⟨some ⟨g, 0, none⟩, c, by rw [(unhide E).2]; rfl, .of (by rw [(unhide E).2]; exact unhide HO), unhide HB⟩
      have jb : (j : Int) < 20 := by omega
      have WF := hide (wf_low (n := p) ⟨p0, by omega⟩)
      rcases unhide LK p with ⟨fz, en⟩ | ⟨fz, q, ey⟩
      · have E := hide (show rr = l ∧ l.length = j from ⟨by rw [unhide RR, fromS_end j6 (unhide HS) (by omega)], fromS_all (unhide HS)⟩)
        have HP := hide (show (tabOf x.ps p).getD z0 = (0, ByteArray.empty, ByteArray.empty) by rw [en]; rfl)
        have HI := hide (show (tabOf x.ps p).isSome = false by rw [en]; rfl)
        have LB := one_more wr (.cells #[.int .i64 0, .string ByteArray.empty, .string ByteArray.empty] 54)
        have OL := hide ((unhide HO).below LB (unhide HO).lt.2)
        have BL := hide ((unhide HB).trans (LB.mono (unhide HB).size))
        clear LB fz en
        go_wp2_with (first | (at_lookup; refine wp_have _ rfl _ _ rfl B _ _ rfl (unhide HT) p rfl (unhide WF) _ false (unhide HP) (unhide HI) ?_) | fail)
        go_ret
        rw [(unhide E).1]
        exact ⟨some ⟨g, 0, none⟩, c, by rw [(unhide E).2]; rfl, .of (by rw [(unhide E).2]; exact unhide OL), unhide BL⟩
      · have NS := hide (fromS_go (unhide HS) fz)
        obtain ⟨q0, q1, q2⟩ := q
        have HP := hide (show (tabOf x.ps p).getD z0 = (q0, q1, q2) by rw [ey]; rfl)
        have HI := hide (show (tabOf x.ps p).isSome = true by rw [ey]; rfl)
        have LB0 := one_more wr (.cells #[.int .i64 q0, .string q1, .string q2] 54)
        have sz0 : (wr.alloc (.cells #[.int .i64 q0, .string q1, .string q2] 54)).heap.size = wr.heap.size + 1 := by simp
        generalize hW4 : wr.alloc (.cells #[.int .i64 q0, .string q1, .string q2] 54) = w4 at *
        have LB := one_more w4 (.cells #[.int .i64 p] 3)
        have OL := hide (((unhide HO).below LB0 (unhide HO).lt.2).below LB (by have := (unhide HO).lt.2; omega))
        have TT := hide (((unhide HT).below LB0).below LB)
        have BL := hide (((unhide HB).trans (LB0.mono (unhide HB).size)).trans (LB.mono (by have := (unhide HB).size; omega)))
        have gB := (unhide HT).lt
        have gl := (unhide HO).lt
        have CL := hide (show (w4.alloc (.cells #[.int .i64 p] 3)).cell? ⟨wr.heap.size + 1, 0, none⟩ = some (.int .i64 p) by rw [← sz0]; simp)
        subst hW4
        clear LB LB0 fz ey
        go_wp2_with (first | (at_lookup; refine wp_have _ rfl _ _ rfl B _ _ rfl (unhide HT) p rfl (unhide WF) _ true (unhide HP) (unhide HI) ?_) | (at_builtin; refine wp_appI _ rfl _ _ rfl w.heap.size g j c l (wr.heap.size + 1) p rfl rfl (unhide OL) (unhide CL) (by omega) (unhide BL).size ?_; intro g9 c9 w9 o9 gr9 loc; have LC := hide loc; have O9 := hide o9; have G9 := hide gr9; clear loc o9 gr9) | fail)
        refine (iBehind _ p ⟨p0, p1⟩).mono ?_
        rintro e w9 ⟨rfl, rfl⟩
        go_wp2
        go_roundw
        case rel =>
          have gn9 : g9 ≠ B := by
            rcases unhide LC with q | q
            · omega
            · simp at q
              omega
          exact ⟨j + 1, g9, c9, l ++ [p], (p + 1) % 20, rfl, rfl, by go_num, by omega, by omega, by omega, gn9, NS, O9, hide (tab_grown (unhide TT) (unhide G9) (fun e => gn e.symm)), hide (grow_low (unhide BL) (unhide G9) ⟨gl.1, (unhide BL).size⟩)⟩
        case measure => simp; omega
end Go.Proofs.Ytcajdiopgaoicaa.IFrom15
namespace Go.Proofs.Ytcajdiopgaoicaa.IRd14
open Go.ChangeShapes Go.WideShapes Go.ChangeAt Go.RowKit Fil14 DiskH14 DkH14 SDk14 SOk14 SRd14 App14 SLess14 SCopy14 SRef14 SCom14 SPut14 TabF14 PTab14 IFile14 ITb14 IDk14 ICom14
set_option maxRecDepth 100000 in
set_option maxHeartbeats 4000000 in
theorem iDiskRead (w : World) (x : Dx) (nm : Int) (hr : RdD w x) (hz : sumZ x.ps ≤ 1048576) (hw : Wf nm) : Calls Try.prog 19 #[.agg #[.int .i64 x.room, .slice x.a x.ps.length x.c], .int .i64 nm] w fun e w' => e = .returned (.tuple #[.string (readD x.room x.ps nm).1, .bool (readD x.room x.ps nm).2]) ∧ Below w.heap.size w w' := by
  have W0 := hide (Wd.made hr 26)
  have OK0 := hide (fun b h => iOkB _ x b (unhide W0).r hz h)
  have RE := hide (show readD x.room x.ps nm = if OkD x.room x.ps ∧ 0 ≤ findF x.ps nm then (bytesAt x.ps (findF x.ps nm).toNat, true) else (ByteArray.empty, false) from rfl)
  have WF := hide hw
  generalize readD x.room x.ps nm = rr at *
  clear hr hw
  by_cases ok : OkD x.room x.ps
  case neg =>
    obtain rfl : rr = (ByteArray.empty, false) := by rw [unhide RE, if_neg (fun h => ok h.1)]
    have OKD := hide (decide_eq_false ok)
    clear ok RE
    go_enter Try.func19, Try.ntmps19
    go_wp2_with fail
    refine ((unhide OK0) false (unhide OKD)).mono ?_
    rintro e u ⟨rfl, b1⟩
    have B := hide ((unhide W0).b.trans (b1.mono (unhide W0).b.size))
    clear b1 W0 OK0
    go_wp2
    go_ret2
    exact ⟨rfl, unhide B⟩
  have OKD := hide (decide_eq_true ok)
  have TL := hide (tl_ok ok)
  have WN := hide (wf_names ok)
  obtain ⟨p, b, fn, HP, HI, SZ⟩ : ∃ (p : TF) (b : Bool), rr = (p.2.1 ++ p.2.2, b) ∧ (tabOf x.ps nm).getD z0 = p ∧ (tabOf x.ps nm).isSome = b ∧ p.2.1.size + p.2.2.size ≤ 1048576 := by
    by_cases q : findF x.ps nm < 0
    · have FN := tl_no (unhide TL) q
      exact ⟨z0, false, by rw [unhide RE, if_neg (by omega)]; rfl, by rw [FN]; rfl, by rw [FN]; rfl, by simp⟩
    · obtain ⟨k, ek, kl, en⟩ := findF_in (ps := x.ps) (nm := nm) (by omega)
      have FY := tl_yes (unhide TL) kl en
      exact ⟨elF x.ps k, true, by rw [unhide RE, if_pos ⟨ok, by omega⟩, ek]; rfl, by rw [FY]; rfl, by rw [FY]; rfl, el_size hz kl⟩
  subst fn
  obtain ⟨p0, p1, p2⟩ := p
  have HP := hide HP
  have HI := hide HI
  clear ok RE TL
  simp only at SZ
  go_enter Try.func19, Try.ntmps19
  go_wp2_with fail
  refine ((unhide OK0) true (unhide OKD)).mono ?_
  rintro e u ⟨rfl, b1⟩
  have WU := hide ((unhide W0).step b1)
  clear b1 W0 OK0
  have c0 := (unhide WU).c0
  have c1 := (unhide WU).c1
  have lt := (unhide WU).lt
  go_wp2_with fail
  refine (iTable _ x (unhide WU).r (unhide WN)).mono ?_
  rintro e u1 ⟨rfl, tt, b2⟩
  have T1 := hide tt
  have B1 := hide (((unhide WU).b.trans (b2.mono (unhide WU).b.size)).trans ((one_more u1 (.cells #[.int .i64 p0, .string p1, .string p2] 54)).mono (Nat.le_trans (unhide WU).b.size b2.size)))
  clear tt b2 WU c0 c1 lt
  go_wp2_with (first | (at_lookup; refine wp_have _ rfl _ _ rfl (u.heap.size + 1) _ _ rfl (unhide T1) nm rfl (unhide WF) _ b (unhide HP) (unhide HI) ?_) | fail)
  refine (iText _ p0 p1 p2 SZ).mono ?_
  rintro e u3 ⟨rfl, b3⟩
  have B3 := hide ((unhide B1).trans (b3.mono (unhide B1).size))
  clear b3
  go_wp2
  go_ret2
  exact ⟨rfl, unhide B3⟩
end Go.Proofs.Ytcajdiopgaoicaa.IRd14
namespace Go.Proofs.Ytcajdiopgaoicaa.Len15
open Fil14 DiskH14 SDk14 SOk14 SRd14 SAppend14 SSync14 SCut14 SegP15 SLate15 SAdd15 SMend15 SFrom15 SClear15
theorem len_clear {room : Int} {ps : List TF} (ks : List Int) (h : ps.length ≤ 1048576) : (clearD room ps ks).2.length ≤ 1048576 := by
  unfold clearD
  split
  · have := List.length_filter_le (stays ks) ps
    show (ps.filter (stays ks)).length ≤ _
    omega
  · simp
end Go.Proofs.Ytcajdiopgaoicaa.Len15
