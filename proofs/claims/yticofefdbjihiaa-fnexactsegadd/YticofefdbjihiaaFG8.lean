/- Texts of one proof, one behind the other: SClear15, Len15, VOI, LawL15, StrH15, IPuts11, IPut11, ConB11, ISeal11, ISz14. -/
import Derived.Test.YticofefdbjihiaaRows
import Derived.Test.YticofefdbjihiaaFG1
import Derived.Test.YticofefdbjihiaaFG2
import Derived.Test.YticofefdbjihiaaFG3
import Derived.Test.YticofefdbjihiaaFG4
import Derived.Test.YticofefdbjihiaaFG5
import Derived.Test.YticofefdbjihiaaFG6
import Derived.Test.YticofefdbjihiaaFG7
import Derived.Deep.RegionHeld3
import Derived.Maps.AppendAt
import Derived.Lib.AppendZerosOnto
import Derived.Lib.AppendZeros
set_option linter.unusedVariables false
set_option linter.unusedSimpArgs false
namespace Go.Proofs.Yticofefdbjihiaa.SClear15
open Go.ChangeShapes Go.WideShapes Go.ChangeAt Go.RowKit Fil14 OpensF14 DiskH14 DkH14 SDk14 SOk14 SRd14 App14 SLess14 SCom14 SPut14 SegP15 SSeg15
open DkH14 (row_step)
/-- A file that stays. -/
def stays (ks : List Int) (p : TF) : Bool := !okS p.1 || ks.contains p.1
/-- What SegsClear answers. -/
def clearD (room : Int) (ps : List TF) (ks : List Int) : Int × List TF := if OkD room ps ∧ ks.length ≤ 20 then (room, ps.filter (stays ks)) else (0, [])
set_option maxRecDepth 100000 in
theorem sHas (w : World) (g n cap : Nat) (xs : List Int) (x : Int) (b : Bool) (hl : xs.length = n) (h20 : n ≤ 1048576) (h : Ints.At w g xs) (hb : xs.contains x = b) :
    Calls Try.prog 59 #[.slice (some ⟨g, 0, none⟩) n cap, .int .i64 x] w fun e w' => e = .returned (.bool b) ∧ w' = w := by
  have IFF : ∀ k, k < n → xs.getD k 0 = x → b = true := fun k hk e => by
    rw [← hb, List.contains_iff_mem, ← e]
    have : k < xs.length := by omega
    simp only [List.getD, List.getElem?_eq_getElem this, Option.getD_some]
    exact List.getElem_mem this
  have NO : (∀ k, k < n → xs.getD k 0 ≠ x) → b = false := fun q => by
    rw [← hb]
    cases e : xs.contains x with
    | false => rfl
    | true =>
      rw [List.contains_iff_mem] at e
      obtain ⟨i, hi, e⟩ := List.getElem_of_mem e
      exact absurd (by simp [List.getD, hi, e]) (q i (by omega))
  have HI := hide IFF
  have HN := hide NO
  have HA := hide h
  clear IFF NO h hb
  go_enter Try.func59, Try.ntmps59
  go_wp2
  go_loop [5] (fun j => ∃ (k : Nat), k ≤ n ∧ j = .int .i64 k ∧ Hid (∀ i, i < k → xs.getD i 0 ≠ x)) (fun j => n - (intOf j).toNat)
  case atStart => exact ⟨0, by omega, rfl, hide (fun i hi => by omega)⟩
  case round =>
    obtain ⟨k, hk, rfl, HG⟩ := hrel
    by_cases t : k < n
    · have e1 := (unhide HA) k (by omega)
      have YES := hide ((unhide HI) k t)
      have GO := hide (show xs.getD k 0 ≠ x → ∀ i, i < k + 1 → xs.getD i 0 ≠ x from fun hn i hi => by
        by_cases e : i = k
        · subst e; exact hn
        · exact (unhide HG) i (by omega))
      generalize xs.getD k 0 = y at *
      by_cases c1 : y = x
      · obtain rfl : b = true := (unhide YES) c1
        clear YES GO
        subst c1
        go_wp2
        go_ret
        exact ⟨rfl, rfl⟩
      · have G := hide ((unhide GO) c1)
        have c1b : (y == x) = false := by simpa using c1
        clear YES GO
        go_wp2
        go_round
        case rel => exact ⟨k + 1, by omega, by go_num, G⟩
        case measure => simp [intOf]; omega
    · obtain rfl : k = n := by omega
      obtain rfl : b = false := (unhide HN) (unhide HG)
      go_wp2
      go_ret
      exact ⟨rfl, rfl⟩
abbrev oL0 : Oper := { dst := some 44, op := Go.Op.fieldAddr 31 (Go.Operand.tmp 5) 1, type := 0, pos := "l15_segment.go:71", after := #[], guard := none }
abbrev oL1 : Oper := { dst := some 45, op := Go.Op.load 29 (Go.Operand.tmp 44), type := 29, pos := "l15_segment.go:71", after := #[{ on := 0, ground := Go.Ground.data }], guard := none }
abbrev oL2 : Oper := { dst := some 46, op := Go.Op.fieldAddr 31 (Go.Operand.tmp 2) 1, type := 0, pos := "l15_segment.go:71", after := #[], guard := none }
abbrev oL3 : Oper := { dst := some 47, op := Go.Op.load 29 (Go.Operand.tmp 46), type := 29, pos := "l15_segment.go:71", after := #[{ on := 2, ground := Go.Ground.data }], guard := none }
abbrev oL4 : Oper := { dst := some 48, op := Go.Op.move (Go.Operand.tmp 6), type := 3, pos := "l15_segment.go:71", after := #[], guard := none }
abbrev oL5 : Oper := { dst := some 49, op := Go.Op.indexAddr 29 (Go.Operand.tmp 47) (Go.Operand.tmp 48), type := 0, pos := "l15_segment.go:71", after := #[{ on := 3, ground := Go.Ground.data }, { on := 4, ground := Go.Ground.data }], guard := none }
abbrev oL6 : Oper := { dst := some 50, op := Go.Op.load 69 (Go.Operand.tmp 49), type := 69, pos := "l15_segment.go:71", after := #[{ on := 5, ground := Go.Ground.data }], guard := none }
abbrev oL7 : Oper := { dst := some 51, op := Go.Op.buildSlice 29 1 #[(0, Go.Operand.tmp 50)], type := 29, pos := "l15_segment.go:71", after := #[{ on := 6, ground := Go.Ground.data }], guard := none }
abbrev oL8 : Oper := { dst := some 52, op := Go.Op.call { callee := Go.Callee.builtin Go.Builtin.append, args := #[Go.Operand.tmp 45, Go.Operand.tmp 51], argTypes := #[29, 29] }, type := 29, pos := "l15_segment.go:71", after := #[{ on := 1, ground := Go.Ground.data }, { on := 7, ground := Go.Ground.data }], guard := none }
abbrev oL9 : Oper := { dst := some 53, op := Go.Op.fieldAddr 31 (Go.Operand.tmp 5) 1, type := 0, pos := "l15_segment.go:71", after := #[{ on := 0, ground := Go.Ground.phase }, { on := 1, ground := Go.Ground.phase }, { on := 2, ground := Go.Ground.phase }, { on := 3, ground := Go.Ground.phase }, { on := 4, ground := Go.Ground.phase }, { on := 5, ground := Go.Ground.phase }, { on := 6, ground := Go.Ground.phase }, { on := 7, ground := Go.Ground.phase }, { on := 8, ground := Go.Ground.phase }], guard := none }
abbrev oL10 : Oper := { dst := none, op := Go.Op.store 29 (Go.Operand.tmp 53) (Go.Operand.tmp 52), type := 0, pos := "l15_segment.go:71", after := #[{ on := 9, ground := Go.Ground.data }, { on := 8, ground := Go.Ground.data }, { on := 8, ground := Go.Ground.chain }, { on := 0, ground := Go.Ground.phase }, { on := 1, ground := Go.Ground.phase }, { on := 2, ground := Go.Ground.phase }, { on := 3, ground := Go.Ground.phase }, { on := 4, ground := Go.Ground.phase }, { on := 5, ground := Go.Ground.phase }, { on := 6, ground := Go.Ground.phase }, { on := 7, ground := Go.Ground.phase }, { on := 8, ground := Go.Ground.phase }], guard := none }
set_option maxRecDepth 100000 in
set_option maxHeartbeats 4000000 in
theorem sSegsClear (w : World) (x : Dx) (gk ck : Nat) (ks : List Int) (hr : RdD w x) (hz : sumZ x.ps ≤ 1048576) (hg : gk < w.heap.size) (hk20 : ks.length ≤ 1048576) (ha : Ints.At w gk ks) :
    Calls Try.prog 30 #[.agg #[.int .i64 x.room, .slice x.a x.ps.length x.c], .slice (some ⟨gk, 0, none⟩) ks.length ck] w fun e w' => ∃ y : Dx, (y.room, y.ps) = clearD x.room x.ps ks ∧ e = .returned (.agg #[.int .i64 y.room, .slice y.a y.ps.length y.c]) ∧ OwD w' w.heap.size y ∧ Below w.heap.size w w' := by
  have G0 := hide (begunD hr)
  have s2 : ((w.alloc (.cells #[.int .i64 x.room, .slice x.a x.ps.length x.c] 31)).alloc (.cells #[.int .i64 0, .slice none 0 0] 31)).heap.size = w.heap.size + 2 := by simp
  have OK0 := hide (sDiskOk _ x (unhide G0).1.r hz)
  have RE := hide (show clearD x.room x.ps ks = if OkD x.room x.ps ∧ ks.length ≤ 20 then (x.room, x.ps.filter (stays ks)) else (0, []) from rfl)
  have G1 := hide (fun g e => (hr.r g e).1)
  have HK := hide (fun (u : World) (b : Below w.heap.size w u) => ha.below b hg)
  have h20 := hr.n
  generalize clearD x.room x.ps ks = rr at *
  clear hr ha
  by_cases ok : OkD x.room x.ps ∧ ks.length ≤ 20
  case neg =>
    obtain rfl : rr = (0, []) := by rw [unhide RE, if_neg ok]
    clear RE
    obtain ⟨b, hb⟩ : ∃ b, decide (OkD x.room x.ps) = b := ⟨_, rfl⟩
    have KL := hide (show b = true → 20 < ks.length from fun e => by
      rw [← hb] at e
      have := of_decide_eq_true e
      exact Nat.lt_of_not_le (fun q => ok ⟨this, q⟩))
    rw [hb] at OK0
    clear hb ok
    go_enter Try.func30, Try.ntmps30
    go_wp2_with fail
    refine (unhide OK0).mono ?_
    rintro e u ⟨rfl, b1⟩
    have R2 := hide ((unhide G0).2.below b1 (by omega))
    have EN := hide (endedD (y := ⟨0, none, 0, []⟩) (base0 := w.heap.size + 2) (((unhide G0).1.step b1).b) (unhide R2) ⟨rfl, .inl ⟨rfl, rfl⟩⟩ (by omega))
    have f0 := (unhide R2).free 0
    have f1 := (unhide R2).free 1
    have r0 := (unhide R2).c0
    have r1 := (unhide R2).c1
    clear b1 OK0 G0
    cases b with
    | false =>
      go_wp2
      refine bodyPost_ret (v := .agg #[.int .i64 0, .slice none 0 0]) (by simp [results, Try.results30, go_sem, r0, r1]) rfl ⟨⟨0, none, 0, []⟩, rfl, rfl, (unhide EN).1, (unhide EN).2⟩
    | true =>
      have kb : (ks.length : Int) > 20 := by have := (unhide KL) rfl; omega
      go_wp2
      refine bodyPost_ret (v := .agg #[.int .i64 0, .slice none 0 0]) (by simp [results, Try.results30, go_sem, r0, r1]) rfl ⟨⟨0, none, 0, []⟩, rfl, rfl, (unhide EN).1, (unhide EN).2⟩
  obtain rfl : rr = (x.room, x.ps.filter (stays ks)) := by rw [unhide RE, if_pos ok]
  have h22 := ok.1.2.1
  have kd : decide ((ks.length : Int) > 20) = false := decide_eq_false (by have := ok.2; omega)
  rw [decide_eq_true ok.1] at OK0
  clear RE ok
  go_enter Try.func30, Try.ntmps30
  go_wp2_with fail
  refine (unhide OK0).mono ?_
  rintro e u ⟨rfl, b1⟩
  have W1 := hide ((unhide G0).1.step b1)
  have R1 := hide ((unhide G0).2.below b1 (by omega))
  have us := b1.size
  rw [s2] at us
  clear b1 G0 OK0 s2
  have W3 := hide ((unhide W1).step (one_more u (.cells #[.int .i64 x.room, .slice none 0 0] 31)))
  have R3 := hide ((unhide R1).below (one_more u (.cells #[.int .i64 x.room, .slice none 0 0] 31)) (unhide R1).lt.2)
  have P0 := hide (show Pt w.heap.size u.heap.size (u.alloc (.cells #[.int .i64 x.room, .slice none 0 0] 31)) (u.alloc (.cells #[.int .i64 x.room, .slice none 0 0] 31)) x.room ((x.ps.take 0).filter (stays ks)) none 0 0 from ⟨World.grownBy.refl _ _, Bc.made _ _ (by omega) rfl, ⟨rfl, .inl ⟨rfl, rfl⟩⟩⟩)
  have s3 : (u.alloc (.cells #[.int .i64 x.room, .slice none 0 0] 31)).heap.size = u.heap.size + 1 := by simp
  have c0 := (unhide W1).c0
  have c1 := (unhide W1).c1
  have lt := (unhide W1).lt
  clear W1 R1
  go_wp2
  generalize u.alloc (.cells #[.int .i64 x.room, .slice none 0 0] 31) = W at *
  clear c0 c1 lt
  have hO : u.heap.size < W.heap.size := by omega
  go_loopw [6] (fun i wr => ∃ (k m c : Nat) (a : Option Addr), i = .int .i64 k ∧ k ≤ x.ps.length ∧ m ≤ k ∧ Hid (Pt w.heap.size u.heap.size W wr x.room ((x.ps.take k).filter (stays ks)) a m c)) (fun i _ => x.ps.length - (intOf i).toNat)
  case atStart => exact ⟨0, 0, 0, none, rfl, by omega, by omega, P0⟩
  case round =>
    clear P0
    obtain ⟨k, m, c, a, rfl, hk, hm, PT⟩ := hrel
    have gs := (unhide PT).gr.size
    have c1 := (kcell (unhide PT).gr 1 (show w.heap.size < W.heap.size from by omega) (by omega)).trans (unhide W3).c1
    by_cases t : k < x.ps.length
    · have kt : (k : Int) < x.ps.length := by omega
      have TK0 := hide (show (x.ps.take (k + 1)).filter (stays ks) = (x.ps.take k).filter (stays ks) ++ if stays ks (elF x.ps k) then [elF x.ps k] else [] from by
        rw [List.take_succ_eq_append_getElem t, List.filter_append, elF_get t]
        simp [List.filter_cons])
      obtain ⟨g, ea, lg, e0, e1, e2⟩ := cells_of (unhide W3).r t
      have lg0 := (unhide G1) g ea
      have gn : g ≠ u.heap.size := by omega
      have d0 := (kcell (unhide PT).gr (k * 3) lg gn).trans e0
      have d1 := (kcell (unhide PT).gr (k * 3 + 1) lg gn).trans e1
      have d2 := (kcell (unhide PT).gr (k * 3 + 2) lg gn).trans e2
      have BW := hide (show Below w.heap.size w wr from grow_low (unhide W3).b (unhide PT).gr ⟨by omega, by omega⟩)
      rw [ea] at c1
      have AK := hide ((unhide HK) wr (unhide BW))
      clear ea BW
      generalize hp : elF x.ps k = p at *
      obtain ⟨z0, z1, z2⟩ := p
      have ST := hide (show stays ks (z0, z1, z2) = (!okS z0 || ks.contains z0) from rfl)
      generalize (x.ps.take k).filter (stays ks) = L at *
      simp only at d0 d1 d2
      clear e0 e1 e2 hp
      obtain ⟨sb, hsb⟩ : ∃ sb, okS z0 = sb := ⟨_, rfl⟩
      obtain ⟨kb, hkb⟩ : ∃ kb, ks.contains z0 = kb := ⟨_, rfl⟩
      have SS := hide hsb
      have KK := hide hkb
      rw [hsb, hkb] at ST
      clear hsb hkb
      cases sb with
      | false =>
        have TK := hide (show (x.ps.take (k + 1)).filter (stays ks) = L ++ [(z0, z1, z2)] by rw [unhide TK0, unhide ST]; simp)
        clear TK0 ST KK AK
        go_wp2_with fail
        refine (sSegOk _ z0 false (unhide SS)).mono ?_
        rintro e wr ⟨rfl, rfl⟩
        have K0 : wr.cell? ⟨w.heap.size, 1, none⟩ = some (.slice (some ⟨g, 0, none⟩) x.ps.length x.c) ∧ wr.cell? ⟨g, k * 3, none⟩ = some (.int .i64 z0) ∧ wr.cell? ⟨g, k * 3 + 1, none⟩ = some (.string z1) ∧ wr.cell? ⟨g, k * 3 + 2, none⟩ = some (.string z2) := ⟨c1, d0, d1, d2⟩
        have KB : (wr.drew.alloc (.cells #[.int .i64 z0, .string z1, .string z2] 69)).cell? ⟨w.heap.size, 1, none⟩ = some (.slice (some ⟨g, 0, none⟩) x.ps.length x.c) ∧ (wr.drew.alloc (.cells #[.int .i64 z0, .string z1, .string z2] 69)).cell? ⟨g, k * 3, none⟩ = some (.int .i64 z0) ∧ (wr.drew.alloc (.cells #[.int .i64 z0, .string z1, .string z2] 69)).cell? ⟨g, k * 3 + 1, none⟩ = some (.string z1) ∧ (wr.drew.alloc (.cells #[.int .i64 z0, .string z1, .string z2] 69)).cell? ⟨g, k * 3 + 2, none⟩ = some (.string z2) := ⟨((one_more wr.drew (.cells #[.int .i64 z0, .string z1, .string z2] 69)).cell (p := ⟨w.heap.size, 1, none⟩) (show w.heap.size < wr.heap.size from by omega)).trans c1, ((one_more wr.drew (.cells #[.int .i64 z0, .string z1, .string z2] 69)).cell (p := ⟨g, k * 3, none⟩) (show g < wr.heap.size from by omega)).trans d0, ((one_more wr.drew (.cells #[.int .i64 z0, .string z1, .string z2] 69)).cell (p := ⟨g, k * 3 + 1, none⟩) (show g < wr.heap.size from by omega)).trans d1, ((one_more wr.drew (.cells #[.int .i64 z0, .string z1, .string z2] 69)).cell (p := ⟨g, k * 3 + 2, none⟩) (show g < wr.heap.size from by omega)).trans d2⟩
        have bc := (unhide PT).bx.c1
        have bcD : wr.drew.cell? ⟨u.heap.size, 1, none⟩ = some (.slice a m c) := bc
        have bcA : (wr.alloc (.cells #[.int .i64 z0, .string z1, .string z2] 69)).cell? ⟨u.heap.size, 1, none⟩ = some (.slice a m c) := ((one_more wr.drew (.cells #[.int .i64 z0, .string z1, .string z2] 69)).cell (p := ⟨u.heap.size, 1, none⟩) (show u.heap.size < wr.heap.size from by omega)).trans bc
        go_wp2_with fail
        refine wp_region_held_drew (S := (fun w' => w'.cell? ⟨w.heap.size, 1, none⟩ = some (.slice (some ⟨g, 0, none⟩) x.ps.length x.c) ∧ w'.cell? ⟨g, k * 3, none⟩ = some (.int .i64 z0) ∧ w'.cell? ⟨g, k * 3 + 1, none⟩ = some (.string z1) ∧ w'.cell? ⟨g, k * 3 + 2, none⟩ = some (.string z2))) (by kernel_rfl) K0 (fun hHeld => ?_)
        refine wpAnyH_take (i := 0) (oi := oL0) (v := .pointer (some ⟨u.heap.size, 1, none⟩)) rfl (by kernel_rfl) (by kernel_rfl) (by kernel_rfl) (fun _ _ _ h => h) (Or.inl ⟨by rfl, fun w hSw => ?_⟩) hHeld ?_
        · (try dsimp only at hSw)
          unfold oL0
          go_simp
        try simp only [oL0, Act.put, List.setIfInBounds_toArray, List.set_cons_zero, List.set_cons_succ]
        refine wpAnyH_take (i := 2) (oi := oL2) (v := .pointer (some ⟨w.heap.size, 1, none⟩)) rfl (by kernel_rfl) (by kernel_rfl) (by kernel_rfl) (fun _ _ _ h => h) (Or.inl ⟨by rfl, fun w hSw => ?_⟩) hHeld ?_
        · (try dsimp only at hSw)
          unfold oL2
          go_simp
        try simp only [oL2, Act.put, List.setIfInBounds_toArray, List.set_cons_zero, List.set_cons_succ]
        refine wpAnyH_take (i := 3) (oi := oL3) (v := .slice (some ⟨g, 0, none⟩) x.ps.length x.c) rfl (by kernel_rfl) (by kernel_rfl) (by kernel_rfl) (fun _ _ _ h => h) (Or.inl ⟨by rfl, fun w hSw => ?_⟩) hHeld ?_
        · (try dsimp only at hSw)
          unfold oL3
          go_simp
        try simp only [oL3, Act.put, List.setIfInBounds_toArray, List.set_cons_zero, List.set_cons_succ]
        refine wpAnyH_take (i := 4) (oi := oL4) (v := .int .i64 k) rfl (by kernel_rfl) (by kernel_rfl) (by kernel_rfl) (fun _ _ _ h => h) (Or.inl ⟨by rfl, fun w hSw => ?_⟩) hHeld ?_
        · (try dsimp only at hSw)
          unfold oL4
          go_simp
        try simp only [oL4, Act.put, List.setIfInBounds_toArray, List.set_cons_zero, List.set_cons_succ]
        refine wpAnyH_take (i := 5) (oi := oL5) (v := .pointer (some ⟨g, k * 3, none⟩)) rfl (by kernel_rfl) (by kernel_rfl) (by kernel_rfl) (fun _ _ _ h => h) (Or.inl ⟨by rfl, fun w hSw => ?_⟩) hHeld ?_
        · (try dsimp only at hSw)
          unfold oL5
          go_simp
        try simp only [oL5, Act.put, List.setIfInBounds_toArray, List.set_cons_zero, List.set_cons_succ]
        refine wpAnyH_take (i := 6) (oi := oL6) (v := .agg #[.int .i64 z0, .string z1, .string z2]) rfl (by kernel_rfl) (by kernel_rfl) (by kernel_rfl) (fun _ _ _ h => h) (Or.inl ⟨by rfl, fun w hSw => ?_⟩) hHeld ?_
        · (try dsimp only at hSw)
          unfold oL6
          go_simp
        try simp only [oL6, Act.put, List.setIfInBounds_toArray, List.set_cons_zero, List.set_cons_succ]
        refine wpAnyH_ready (rs := [1, 7]) (by kernel_rfl) (by simp) ?_
        refine AllReadyH.cons (o := oL1) rfl (fun K hK => ?_) (AllReadyH.cons (o := oL7) rfl (fun K hK => ?_) AllReadyH.nil)
        · unfold oL1
          go_simp
          refine hK.out _ _ K0 (fun hHeld => ?_)
          clear hK K
          try simp only [oL1, Act.put, List.setIfInBounds_toArray, List.set_cons_zero, List.set_cons_succ]
          refine wpAnyH_ready (rs := [7]) (by kernel_rfl) (by simp) ?_
          refine AllReadyH.cons (o := oL7) rfl (fun K hK => ?_) AllReadyH.nil
          unfold oL7
          go_simp
          refine hK.out _ _ KB (fun hHeld => ?_)
          clear hK K
          try simp only [oL7, Act.put, List.setIfInBounds_toArray, List.set_cons_zero, List.set_cons_succ]
          refine wpAnyH_ready (rs := [8]) (by kernel_rfl) (by simp) ?_
          refine AllReadyH.cons (o := oL8) rfl (fun K hK => ?_) AllReadyH.nil
          refine step_app (wr.drew.alloc (.cells #[.int .i64 z0, .string z1, .string z2] 69)) (by rfl) _ _ 29 69 (by rfl) (.agg #[.int .i64 0, .string ByteArray.empty, .string ByteArray.empty]) 3 40 Try.underlying29 HelpF14.info2 rfl (by decide) (by decide) W.heap.size (.slice a m c) m (flatF L) wr.drew.heap.size [.int .i64 z0, .string z1, .string z2] (by rfl) (by rfl) (row_step (W := wr.drew) (unhide PT).ow (one_more wr.drew (.cells #[.int .i64 z0, .string z1, .string z2] 69))) rfl (litm wr.drew _ _ _ (by rfl)) (by simp [Value.oneCell']) (by omega) (Nat.le_trans (show W.heap.size ≤ wr.drew.heap.size from gs) (by simp)) ?_
          intro g9 c9 u9 o9 gr9
          have PA := (unhide PT).drew.app (p := (z0, z1, z2)) hO (one_more wr.drew (.cells #[.int .i64 z0, .string z1, .string z2] 69)) gr9 o9
          have BL : ∀ j, (Value.slice a m c).ownBlock = some j → W.heap.size ≤ j := fun j hj => (World.ownsRow.lt (unhide PT).ow j hj).1
          have BX9 := hide PA.1
          have P9 := hide PA.2
          have fr9 : u9.frozen? ⟨u.heap.size, 1, none⟩ = false := (unhide BX9).free 1
          have bc9 := (unhide BX9).c1
          have gs9 := gr9.size
          simp at gs9
          have KC : u9.cell? ⟨w.heap.size, 1, none⟩ = some (.slice (some ⟨g, 0, none⟩) x.ps.length x.c) ∧ u9.cell? ⟨g, k * 3, none⟩ = some (.int .i64 z0) ∧ u9.cell? ⟨g, k * 3 + 1, none⟩ = some (.string z1) ∧ u9.cell? ⟨g, k * 3 + 2, none⟩ = some (.string z2) := ⟨gr9.cell KB.1 (fun e => by have := BL _ e.symm; simp only at this; omega), gr9.cell KB.2.1 (fun e => by have := BL _ e.symm; simp only at this; omega), gr9.cell KB.2.2.1 (fun e => by have := BL _ e.symm; simp only at this; omega), gr9.cell KB.2.2.2 (fun e => by have := BL _ e.symm; simp only at this; omega)⟩
          have SB := bc_set1 (unhide BX9) (.slice (some ⟨g9, 0, none⟩) (m + 1) c9)
          have KD : (u9.setCell ⟨u.heap.size, 1, none⟩ (.slice (some ⟨g9, 0, none⟩) (m + 1) c9)).cell? ⟨w.heap.size, 1, none⟩ = some (.slice (some ⟨g, 0, none⟩) x.ps.length x.c) ∧ (u9.setCell ⟨u.heap.size, 1, none⟩ (.slice (some ⟨g9, 0, none⟩) (m + 1) c9)).cell? ⟨g, k * 3, none⟩ = some (.int .i64 z0) ∧ (u9.setCell ⟨u.heap.size, 1, none⟩ (.slice (some ⟨g9, 0, none⟩) (m + 1) c9)).cell? ⟨g, k * 3 + 1, none⟩ = some (.string z1) ∧ (u9.setCell ⟨u.heap.size, 1, none⟩ (.slice (some ⟨g9, 0, none⟩) (m + 1) c9)).cell? ⟨g, k * 3 + 2, none⟩ = some (.string z2) := ⟨(kcell SB.2 (1) (show w.heap.size < u9.heap.size from by omega) (show w.heap.size ≠ u.heap.size from by omega)).trans KC.1, (kcell SB.2 (k * 3) (show g < u9.heap.size from by omega) gn).trans KC.2.1, (kcell SB.2 (k * 3 + 1) (show g < u9.heap.size from by omega) gn).trans KC.2.2.1, (kcell SB.2 (k * 3 + 2) (show g < u9.heap.size from by omega) gn).trans KC.2.2.2⟩
          clear o9 SB PA
          refine hK.out _ _ KC (fun hHeld => ?_)
          clear hK K
          try simp only [oL8, Act.put, List.setIfInBounds_toArray, List.set_cons_zero, List.set_cons_succ]
          refine wpAnyH_take (i := 9) (oi := oL9) (v := .pointer (some ⟨u.heap.size, 1, none⟩)) rfl (by kernel_rfl) (by kernel_rfl) (by kernel_rfl) (fun _ _ _ h => h) (Or.inl ⟨by rfl, fun w hSw => ?_⟩) hHeld ?_
          · (try dsimp only at hSw)
            unfold oL9
            go_simp
          try simp only [oL9, Act.put, List.setIfInBounds_toArray, List.set_cons_zero, List.set_cons_succ]
          refine wpAnyH_ready (rs := [10]) (by kernel_rfl) (by simp) ?_
          refine AllReadyH.cons (o := oL10) rfl (fun K hK => ?_) AllReadyH.nil
          unfold oL10
          go_simp
          refine hK.out _ _ KD (fun hHeld => ?_)
          clear hK K
          try simp only [oL10, Act.put, List.setIfInBounds_toArray, List.set_cons_zero, List.set_cons_succ]
          refine wpAnyH_done (by kernel_rfl) ?_ _
          clear K0 KB KC KD gr9 bc bcD bcA bc9 fr9
          go_wp2
          go_roundw
          case rel => exact ⟨k + 1, m + 1, c9, some ⟨g9, 0, none⟩, by go_num, by omega, by omega, by rw [unhide TK]; exact P9⟩
          case measure => simp [intOf]; omega
        · unfold oL7
          go_simp
          refine hK.out _ _ KB (fun hHeld => ?_)
          clear hK K
          try simp only [oL7, Act.put, List.setIfInBounds_toArray, List.set_cons_zero, List.set_cons_succ]
          refine wpAnyH_ready (rs := [1]) (by kernel_rfl) (by simp) ?_
          refine AllReadyH.cons (o := oL1) rfl (fun K hK => ?_) AllReadyH.nil
          unfold oL1
          go_simp
          refine hK.out _ _ KB (fun hHeld => ?_)
          clear hK K
          try simp only [oL1, Act.put, List.setIfInBounds_toArray, List.set_cons_zero, List.set_cons_succ]
          refine wpAnyH_ready (rs := [8]) (by kernel_rfl) (by simp) ?_
          refine AllReadyH.cons (o := oL8) rfl (fun K hK => ?_) AllReadyH.nil
          refine step_app (wr.drew.alloc (.cells #[.int .i64 z0, .string z1, .string z2] 69)) (by rfl) _ _ 29 69 (by rfl) (.agg #[.int .i64 0, .string ByteArray.empty, .string ByteArray.empty]) 3 40 Try.underlying29 HelpF14.info2 rfl (by decide) (by decide) W.heap.size (.slice a m c) m (flatF L) wr.drew.heap.size [.int .i64 z0, .string z1, .string z2] (by rfl) (by rfl) (row_step (W := wr.drew) (unhide PT).ow (one_more wr.drew (.cells #[.int .i64 z0, .string z1, .string z2] 69))) rfl (litm wr.drew _ _ _ (by rfl)) (by simp [Value.oneCell']) (by omega) (Nat.le_trans (show W.heap.size ≤ wr.drew.heap.size from gs) (by simp)) ?_
          intro g9 c9 u9 o9 gr9
          have PA := (unhide PT).drew.app (p := (z0, z1, z2)) hO (one_more wr.drew (.cells #[.int .i64 z0, .string z1, .string z2] 69)) gr9 o9
          have BL : ∀ j, (Value.slice a m c).ownBlock = some j → W.heap.size ≤ j := fun j hj => (World.ownsRow.lt (unhide PT).ow j hj).1
          have BX9 := hide PA.1
          have P9 := hide PA.2
          have fr9 : u9.frozen? ⟨u.heap.size, 1, none⟩ = false := (unhide BX9).free 1
          have bc9 := (unhide BX9).c1
          have gs9 := gr9.size
          simp at gs9
          have KC : u9.cell? ⟨w.heap.size, 1, none⟩ = some (.slice (some ⟨g, 0, none⟩) x.ps.length x.c) ∧ u9.cell? ⟨g, k * 3, none⟩ = some (.int .i64 z0) ∧ u9.cell? ⟨g, k * 3 + 1, none⟩ = some (.string z1) ∧ u9.cell? ⟨g, k * 3 + 2, none⟩ = some (.string z2) := ⟨gr9.cell KB.1 (fun e => by have := BL _ e.symm; simp only at this; omega), gr9.cell KB.2.1 (fun e => by have := BL _ e.symm; simp only at this; omega), gr9.cell KB.2.2.1 (fun e => by have := BL _ e.symm; simp only at this; omega), gr9.cell KB.2.2.2 (fun e => by have := BL _ e.symm; simp only at this; omega)⟩
          have SB := bc_set1 (unhide BX9) (.slice (some ⟨g9, 0, none⟩) (m + 1) c9)
          have KD : (u9.setCell ⟨u.heap.size, 1, none⟩ (.slice (some ⟨g9, 0, none⟩) (m + 1) c9)).cell? ⟨w.heap.size, 1, none⟩ = some (.slice (some ⟨g, 0, none⟩) x.ps.length x.c) ∧ (u9.setCell ⟨u.heap.size, 1, none⟩ (.slice (some ⟨g9, 0, none⟩) (m + 1) c9)).cell? ⟨g, k * 3, none⟩ = some (.int .i64 z0) ∧ (u9.setCell ⟨u.heap.size, 1, none⟩ (.slice (some ⟨g9, 0, none⟩) (m + 1) c9)).cell? ⟨g, k * 3 + 1, none⟩ = some (.string z1) ∧ (u9.setCell ⟨u.heap.size, 1, none⟩ (.slice (some ⟨g9, 0, none⟩) (m + 1) c9)).cell? ⟨g, k * 3 + 2, none⟩ = some (.string z2) := ⟨(kcell SB.2 (1) (show w.heap.size < u9.heap.size from by omega) (show w.heap.size ≠ u.heap.size from by omega)).trans KC.1, (kcell SB.2 (k * 3) (show g < u9.heap.size from by omega) gn).trans KC.2.1, (kcell SB.2 (k * 3 + 1) (show g < u9.heap.size from by omega) gn).trans KC.2.2.1, (kcell SB.2 (k * 3 + 2) (show g < u9.heap.size from by omega) gn).trans KC.2.2.2⟩
          clear o9 SB PA
          refine hK.out _ _ KC (fun hHeld => ?_)
          clear hK K
          try simp only [oL8, Act.put, List.setIfInBounds_toArray, List.set_cons_zero, List.set_cons_succ]
          refine wpAnyH_take (i := 9) (oi := oL9) (v := .pointer (some ⟨u.heap.size, 1, none⟩)) rfl (by kernel_rfl) (by kernel_rfl) (by kernel_rfl) (fun _ _ _ h => h) (Or.inl ⟨by rfl, fun w hSw => ?_⟩) hHeld ?_
          · (try dsimp only at hSw)
            unfold oL9
            go_simp
          try simp only [oL9, Act.put, List.setIfInBounds_toArray, List.set_cons_zero, List.set_cons_succ]
          refine wpAnyH_ready (rs := [10]) (by kernel_rfl) (by simp) ?_
          refine AllReadyH.cons (o := oL10) rfl (fun K hK => ?_) AllReadyH.nil
          unfold oL10
          go_simp
          refine hK.out _ _ KD (fun hHeld => ?_)
          clear hK K
          try simp only [oL10, Act.put, List.setIfInBounds_toArray, List.set_cons_zero, List.set_cons_succ]
          refine wpAnyH_done (by kernel_rfl) ?_ _
          clear K0 KB KC KD gr9 bc bcD bcA bc9 fr9
          go_wp2
          go_roundw
          case rel => exact ⟨k + 1, m + 1, c9, some ⟨g9, 0, none⟩, by go_num, by omega, by omega, by rw [unhide TK]; exact P9⟩
          case measure => simp [intOf]; omega
      | true =>
        cases kb with
        | true =>
          have TK := hide (show (x.ps.take (k + 1)).filter (stays ks) = L ++ [(z0, z1, z2)] by rw [unhide TK0, unhide ST]; simp)
          clear TK0 ST
          go_wp2_with fail
          refine (sSegOk _ z0 true (unhide SS)).mono ?_
          rintro e wr ⟨rfl, rfl⟩
          go_wp2_with fail
          refine (sHas _ gk ks.length ck ks z0 true rfl hk20 (unhide AK) (unhide KK)).mono ?_
          rintro e wr ⟨rfl, rfl⟩
          clear AK
          have K0 : wr.cell? ⟨w.heap.size, 1, none⟩ = some (.slice (some ⟨g, 0, none⟩) x.ps.length x.c) ∧ wr.cell? ⟨g, k * 3, none⟩ = some (.int .i64 z0) ∧ wr.cell? ⟨g, k * 3 + 1, none⟩ = some (.string z1) ∧ wr.cell? ⟨g, k * 3 + 2, none⟩ = some (.string z2) := ⟨c1, d0, d1, d2⟩
          have KB : (wr.drew.alloc (.cells #[.int .i64 z0, .string z1, .string z2] 69)).cell? ⟨w.heap.size, 1, none⟩ = some (.slice (some ⟨g, 0, none⟩) x.ps.length x.c) ∧ (wr.drew.alloc (.cells #[.int .i64 z0, .string z1, .string z2] 69)).cell? ⟨g, k * 3, none⟩ = some (.int .i64 z0) ∧ (wr.drew.alloc (.cells #[.int .i64 z0, .string z1, .string z2] 69)).cell? ⟨g, k * 3 + 1, none⟩ = some (.string z1) ∧ (wr.drew.alloc (.cells #[.int .i64 z0, .string z1, .string z2] 69)).cell? ⟨g, k * 3 + 2, none⟩ = some (.string z2) := ⟨((one_more wr.drew (.cells #[.int .i64 z0, .string z1, .string z2] 69)).cell (p := ⟨w.heap.size, 1, none⟩) (show w.heap.size < wr.heap.size from by omega)).trans c1, ((one_more wr.drew (.cells #[.int .i64 z0, .string z1, .string z2] 69)).cell (p := ⟨g, k * 3, none⟩) (show g < wr.heap.size from by omega)).trans d0, ((one_more wr.drew (.cells #[.int .i64 z0, .string z1, .string z2] 69)).cell (p := ⟨g, k * 3 + 1, none⟩) (show g < wr.heap.size from by omega)).trans d1, ((one_more wr.drew (.cells #[.int .i64 z0, .string z1, .string z2] 69)).cell (p := ⟨g, k * 3 + 2, none⟩) (show g < wr.heap.size from by omega)).trans d2⟩
          have bc := (unhide PT).bx.c1
          have bcD : wr.drew.cell? ⟨u.heap.size, 1, none⟩ = some (.slice a m c) := bc
          have bcA : (wr.alloc (.cells #[.int .i64 z0, .string z1, .string z2] 69)).cell? ⟨u.heap.size, 1, none⟩ = some (.slice a m c) := ((one_more wr.drew (.cells #[.int .i64 z0, .string z1, .string z2] 69)).cell (p := ⟨u.heap.size, 1, none⟩) (show u.heap.size < wr.heap.size from by omega)).trans bc
          go_wp2_with fail
          refine wp_region_held_drew (S := (fun w' => w'.cell? ⟨w.heap.size, 1, none⟩ = some (.slice (some ⟨g, 0, none⟩) x.ps.length x.c) ∧ w'.cell? ⟨g, k * 3, none⟩ = some (.int .i64 z0) ∧ w'.cell? ⟨g, k * 3 + 1, none⟩ = some (.string z1) ∧ w'.cell? ⟨g, k * 3 + 2, none⟩ = some (.string z2))) (by kernel_rfl) K0 (fun hHeld => ?_)
          refine wpAnyH_take (i := 0) (oi := oL0) (v := .pointer (some ⟨u.heap.size, 1, none⟩)) rfl (by kernel_rfl) (by kernel_rfl) (by kernel_rfl) (fun _ _ _ h => h) (Or.inl ⟨by rfl, fun w hSw => ?_⟩) hHeld ?_
          · (try dsimp only at hSw)
            unfold oL0
            go_simp
          try simp only [oL0, Act.put, List.setIfInBounds_toArray, List.set_cons_zero, List.set_cons_succ]
          refine wpAnyH_take (i := 2) (oi := oL2) (v := .pointer (some ⟨w.heap.size, 1, none⟩)) rfl (by kernel_rfl) (by kernel_rfl) (by kernel_rfl) (fun _ _ _ h => h) (Or.inl ⟨by rfl, fun w hSw => ?_⟩) hHeld ?_
          · (try dsimp only at hSw)
            unfold oL2
            go_simp
          try simp only [oL2, Act.put, List.setIfInBounds_toArray, List.set_cons_zero, List.set_cons_succ]
          refine wpAnyH_take (i := 3) (oi := oL3) (v := .slice (some ⟨g, 0, none⟩) x.ps.length x.c) rfl (by kernel_rfl) (by kernel_rfl) (by kernel_rfl) (fun _ _ _ h => h) (Or.inl ⟨by rfl, fun w hSw => ?_⟩) hHeld ?_
          · (try dsimp only at hSw)
            unfold oL3
            go_simp
          try simp only [oL3, Act.put, List.setIfInBounds_toArray, List.set_cons_zero, List.set_cons_succ]
          refine wpAnyH_take (i := 4) (oi := oL4) (v := .int .i64 k) rfl (by kernel_rfl) (by kernel_rfl) (by kernel_rfl) (fun _ _ _ h => h) (Or.inl ⟨by rfl, fun w hSw => ?_⟩) hHeld ?_
          · (try dsimp only at hSw)
            unfold oL4
            go_simp
          try simp only [oL4, Act.put, List.setIfInBounds_toArray, List.set_cons_zero, List.set_cons_succ]
          refine wpAnyH_take (i := 5) (oi := oL5) (v := .pointer (some ⟨g, k * 3, none⟩)) rfl (by kernel_rfl) (by kernel_rfl) (by kernel_rfl) (fun _ _ _ h => h) (Or.inl ⟨by rfl, fun w hSw => ?_⟩) hHeld ?_
          · (try dsimp only at hSw)
            unfold oL5
            go_simp
          try simp only [oL5, Act.put, List.setIfInBounds_toArray, List.set_cons_zero, List.set_cons_succ]
          refine wpAnyH_take (i := 6) (oi := oL6) (v := .agg #[.int .i64 z0, .string z1, .string z2]) rfl (by kernel_rfl) (by kernel_rfl) (by kernel_rfl) (fun _ _ _ h => h) (Or.inl ⟨by rfl, fun w hSw => ?_⟩) hHeld ?_
          · (try dsimp only at hSw)
            unfold oL6
            go_simp
          try simp only [oL6, Act.put, List.setIfInBounds_toArray, List.set_cons_zero, List.set_cons_succ]
          refine wpAnyH_ready (rs := [1, 7]) (by kernel_rfl) (by simp) ?_
          refine AllReadyH.cons (o := oL1) rfl (fun K hK => ?_) (AllReadyH.cons (o := oL7) rfl (fun K hK => ?_) AllReadyH.nil)
          · unfold oL1
            go_simp
            refine hK.out _ _ K0 (fun hHeld => ?_)
            clear hK K
            try simp only [oL1, Act.put, List.setIfInBounds_toArray, List.set_cons_zero, List.set_cons_succ]
            refine wpAnyH_ready (rs := [7]) (by kernel_rfl) (by simp) ?_
            refine AllReadyH.cons (o := oL7) rfl (fun K hK => ?_) AllReadyH.nil
            unfold oL7
            go_simp
            refine hK.out _ _ KB (fun hHeld => ?_)
            clear hK K
            try simp only [oL7, Act.put, List.setIfInBounds_toArray, List.set_cons_zero, List.set_cons_succ]
            refine wpAnyH_ready (rs := [8]) (by kernel_rfl) (by simp) ?_
            refine AllReadyH.cons (o := oL8) rfl (fun K hK => ?_) AllReadyH.nil
            refine step_app (wr.drew.alloc (.cells #[.int .i64 z0, .string z1, .string z2] 69)) (by rfl) _ _ 29 69 (by rfl) (.agg #[.int .i64 0, .string ByteArray.empty, .string ByteArray.empty]) 3 40 Try.underlying29 HelpF14.info2 rfl (by decide) (by decide) W.heap.size (.slice a m c) m (flatF L) wr.drew.heap.size [.int .i64 z0, .string z1, .string z2] (by rfl) (by rfl) (row_step (W := wr.drew) (unhide PT).ow (one_more wr.drew (.cells #[.int .i64 z0, .string z1, .string z2] 69))) rfl (litm wr.drew _ _ _ (by rfl)) (by simp [Value.oneCell']) (by omega) (Nat.le_trans (show W.heap.size ≤ wr.drew.heap.size from gs) (by simp)) ?_
            intro g9 c9 u9 o9 gr9
            have PA := (unhide PT).drew.app (p := (z0, z1, z2)) hO (one_more wr.drew (.cells #[.int .i64 z0, .string z1, .string z2] 69)) gr9 o9
            have BL : ∀ j, (Value.slice a m c).ownBlock = some j → W.heap.size ≤ j := fun j hj => (World.ownsRow.lt (unhide PT).ow j hj).1
            have BX9 := hide PA.1
            have P9 := hide PA.2
            have fr9 : u9.frozen? ⟨u.heap.size, 1, none⟩ = false := (unhide BX9).free 1
            have bc9 := (unhide BX9).c1
            have gs9 := gr9.size
            simp at gs9
            have KC : u9.cell? ⟨w.heap.size, 1, none⟩ = some (.slice (some ⟨g, 0, none⟩) x.ps.length x.c) ∧ u9.cell? ⟨g, k * 3, none⟩ = some (.int .i64 z0) ∧ u9.cell? ⟨g, k * 3 + 1, none⟩ = some (.string z1) ∧ u9.cell? ⟨g, k * 3 + 2, none⟩ = some (.string z2) := ⟨gr9.cell KB.1 (fun e => by have := BL _ e.symm; simp only at this; omega), gr9.cell KB.2.1 (fun e => by have := BL _ e.symm; simp only at this; omega), gr9.cell KB.2.2.1 (fun e => by have := BL _ e.symm; simp only at this; omega), gr9.cell KB.2.2.2 (fun e => by have := BL _ e.symm; simp only at this; omega)⟩
            have SB := bc_set1 (unhide BX9) (.slice (some ⟨g9, 0, none⟩) (m + 1) c9)
            have KD : (u9.setCell ⟨u.heap.size, 1, none⟩ (.slice (some ⟨g9, 0, none⟩) (m + 1) c9)).cell? ⟨w.heap.size, 1, none⟩ = some (.slice (some ⟨g, 0, none⟩) x.ps.length x.c) ∧ (u9.setCell ⟨u.heap.size, 1, none⟩ (.slice (some ⟨g9, 0, none⟩) (m + 1) c9)).cell? ⟨g, k * 3, none⟩ = some (.int .i64 z0) ∧ (u9.setCell ⟨u.heap.size, 1, none⟩ (.slice (some ⟨g9, 0, none⟩) (m + 1) c9)).cell? ⟨g, k * 3 + 1, none⟩ = some (.string z1) ∧ (u9.setCell ⟨u.heap.size, 1, none⟩ (.slice (some ⟨g9, 0, none⟩) (m + 1) c9)).cell? ⟨g, k * 3 + 2, none⟩ = some (.string z2) := ⟨(kcell SB.2 (1) (show w.heap.size < u9.heap.size from by omega) (show w.heap.size ≠ u.heap.size from by omega)).trans KC.1, (kcell SB.2 (k * 3) (show g < u9.heap.size from by omega) gn).trans KC.2.1, (kcell SB.2 (k * 3 + 1) (show g < u9.heap.size from by omega) gn).trans KC.2.2.1, (kcell SB.2 (k * 3 + 2) (show g < u9.heap.size from by omega) gn).trans KC.2.2.2⟩
            clear o9 SB PA
            refine hK.out _ _ KC (fun hHeld => ?_)
            clear hK K
            try simp only [oL8, Act.put, List.setIfInBounds_toArray, List.set_cons_zero, List.set_cons_succ]
            refine wpAnyH_take (i := 9) (oi := oL9) (v := .pointer (some ⟨u.heap.size, 1, none⟩)) rfl (by kernel_rfl) (by kernel_rfl) (by kernel_rfl) (fun _ _ _ h => h) (Or.inl ⟨by rfl, fun w hSw => ?_⟩) hHeld ?_
            · (try dsimp only at hSw)
              unfold oL9
              go_simp
            try simp only [oL9, Act.put, List.setIfInBounds_toArray, List.set_cons_zero, List.set_cons_succ]
            refine wpAnyH_ready (rs := [10]) (by kernel_rfl) (by simp) ?_
            refine AllReadyH.cons (o := oL10) rfl (fun K hK => ?_) AllReadyH.nil
            unfold oL10
            go_simp
            refine hK.out _ _ KD (fun hHeld => ?_)
            clear hK K
            try simp only [oL10, Act.put, List.setIfInBounds_toArray, List.set_cons_zero, List.set_cons_succ]
            refine wpAnyH_done (by kernel_rfl) ?_ _
            clear K0 KB KC KD gr9 bc bcD bcA bc9 fr9
            go_wp2
            go_roundw
            case rel => exact ⟨k + 1, m + 1, c9, some ⟨g9, 0, none⟩, by go_num, by omega, by omega, by rw [unhide TK]; exact P9⟩
            case measure => simp [intOf]; omega
          · unfold oL7
            go_simp
            refine hK.out _ _ KB (fun hHeld => ?_)
            clear hK K
            try simp only [oL7, Act.put, List.setIfInBounds_toArray, List.set_cons_zero, List.set_cons_succ]
            refine wpAnyH_ready (rs := [1]) (by kernel_rfl) (by simp) ?_
            refine AllReadyH.cons (o := oL1) rfl (fun K hK => ?_) AllReadyH.nil
            unfold oL1
            go_simp
            refine hK.out _ _ KB (fun hHeld => ?_)
            clear hK K
            try simp only [oL1, Act.put, List.setIfInBounds_toArray, List.set_cons_zero, List.set_cons_succ]
            refine wpAnyH_ready (rs := [8]) (by kernel_rfl) (by simp) ?_
            refine AllReadyH.cons (o := oL8) rfl (fun K hK => ?_) AllReadyH.nil
            refine step_app (wr.drew.alloc (.cells #[.int .i64 z0, .string z1, .string z2] 69)) (by rfl) _ _ 29 69 (by rfl) (.agg #[.int .i64 0, .string ByteArray.empty, .string ByteArray.empty]) 3 40 Try.underlying29 HelpF14.info2 rfl (by decide) (by decide) W.heap.size (.slice a m c) m (flatF L) wr.drew.heap.size [.int .i64 z0, .string z1, .string z2] (by rfl) (by rfl) (row_step (W := wr.drew) (unhide PT).ow (one_more wr.drew (.cells #[.int .i64 z0, .string z1, .string z2] 69))) rfl (litm wr.drew _ _ _ (by rfl)) (by simp [Value.oneCell']) (by omega) (Nat.le_trans (show W.heap.size ≤ wr.drew.heap.size from gs) (by simp)) ?_
            intro g9 c9 u9 o9 gr9
            have PA := (unhide PT).drew.app (p := (z0, z1, z2)) hO (one_more wr.drew (.cells #[.int .i64 z0, .string z1, .string z2] 69)) gr9 o9
            have BL : ∀ j, (Value.slice a m c).ownBlock = some j → W.heap.size ≤ j := fun j hj => (World.ownsRow.lt (unhide PT).ow j hj).1
            have BX9 := hide PA.1
            have P9 := hide PA.2
            have fr9 : u9.frozen? ⟨u.heap.size, 1, none⟩ = false := (unhide BX9).free 1
            have bc9 := (unhide BX9).c1
            have gs9 := gr9.size
            simp at gs9
            have KC : u9.cell? ⟨w.heap.size, 1, none⟩ = some (.slice (some ⟨g, 0, none⟩) x.ps.length x.c) ∧ u9.cell? ⟨g, k * 3, none⟩ = some (.int .i64 z0) ∧ u9.cell? ⟨g, k * 3 + 1, none⟩ = some (.string z1) ∧ u9.cell? ⟨g, k * 3 + 2, none⟩ = some (.string z2) := ⟨gr9.cell KB.1 (fun e => by have := BL _ e.symm; simp only at this; omega), gr9.cell KB.2.1 (fun e => by have := BL _ e.symm; simp only at this; omega), gr9.cell KB.2.2.1 (fun e => by have := BL _ e.symm; simp only at this; omega), gr9.cell KB.2.2.2 (fun e => by have := BL _ e.symm; simp only at this; omega)⟩
            have SB := bc_set1 (unhide BX9) (.slice (some ⟨g9, 0, none⟩) (m + 1) c9)
            have KD : (u9.setCell ⟨u.heap.size, 1, none⟩ (.slice (some ⟨g9, 0, none⟩) (m + 1) c9)).cell? ⟨w.heap.size, 1, none⟩ = some (.slice (some ⟨g, 0, none⟩) x.ps.length x.c) ∧ (u9.setCell ⟨u.heap.size, 1, none⟩ (.slice (some ⟨g9, 0, none⟩) (m + 1) c9)).cell? ⟨g, k * 3, none⟩ = some (.int .i64 z0) ∧ (u9.setCell ⟨u.heap.size, 1, none⟩ (.slice (some ⟨g9, 0, none⟩) (m + 1) c9)).cell? ⟨g, k * 3 + 1, none⟩ = some (.string z1) ∧ (u9.setCell ⟨u.heap.size, 1, none⟩ (.slice (some ⟨g9, 0, none⟩) (m + 1) c9)).cell? ⟨g, k * 3 + 2, none⟩ = some (.string z2) := ⟨(kcell SB.2 (1) (show w.heap.size < u9.heap.size from by omega) (show w.heap.size ≠ u.heap.size from by omega)).trans KC.1, (kcell SB.2 (k * 3) (show g < u9.heap.size from by omega) gn).trans KC.2.1, (kcell SB.2 (k * 3 + 1) (show g < u9.heap.size from by omega) gn).trans KC.2.2.1, (kcell SB.2 (k * 3 + 2) (show g < u9.heap.size from by omega) gn).trans KC.2.2.2⟩
            clear o9 SB PA
            refine hK.out _ _ KC (fun hHeld => ?_)
            clear hK K
            try simp only [oL8, Act.put, List.setIfInBounds_toArray, List.set_cons_zero, List.set_cons_succ]
            refine wpAnyH_take (i := 9) (oi := oL9) (v := .pointer (some ⟨u.heap.size, 1, none⟩)) rfl (by kernel_rfl) (by kernel_rfl) (by kernel_rfl) (fun _ _ _ h => h) (Or.inl ⟨by rfl, fun w hSw => ?_⟩) hHeld ?_
            · (try dsimp only at hSw)
              unfold oL9
              go_simp
            try simp only [oL9, Act.put, List.setIfInBounds_toArray, List.set_cons_zero, List.set_cons_succ]
            refine wpAnyH_ready (rs := [10]) (by kernel_rfl) (by simp) ?_
            refine AllReadyH.cons (o := oL10) rfl (fun K hK => ?_) AllReadyH.nil
            unfold oL10
            go_simp
            refine hK.out _ _ KD (fun hHeld => ?_)
            clear hK K
            try simp only [oL10, Act.put, List.setIfInBounds_toArray, List.set_cons_zero, List.set_cons_succ]
            refine wpAnyH_done (by kernel_rfl) ?_ _
            clear K0 KB KC KD gr9 bc bcD bcA bc9 fr9
            go_wp2
            go_roundw
            case rel => exact ⟨k + 1, m + 1, c9, some ⟨g9, 0, none⟩, by go_num, by omega, by omega, by rw [unhide TK]; exact P9⟩
            case measure => simp [intOf]; omega
        | false =>
          have TK := hide (show (x.ps.take (k + 1)).filter (stays ks) = L by rw [unhide TK0, unhide ST]; simp)
          clear TK0 ST
          go_wp2_with fail
          refine (sSegOk _ z0 true (unhide SS)).mono ?_
          rintro e wr ⟨rfl, rfl⟩
          go_wp2_with fail
          refine (sHas _ gk ks.length ck ks z0 false rfl hk20 (unhide AK) (unhide KK)).mono ?_
          rintro e wr ⟨rfl, rfl⟩
          clear AK
          go_wp2
          go_roundw
          case rel => exact ⟨k + 1, m, c, a, by go_num, by omega, by omega, by rw [unhide TK]; exact PT⟩
          case measure => simp [intOf]; omega
    · have e : k = x.ps.length := by omega
      subst e
      have TL := hide (show (x.ps.take x.ps.length).filter (stays ks) = x.ps.filter (stays ks) by rw [List.take_length])
      generalize (x.ps.take x.ps.length).filter (stays ks) = L at *
      have B0 := (unhide PT).bx.c0
      have B1 := (unhide PT).bx.c1
      have Rk := hide ((unhide R3).kept (unhide PT).gr (by simp; omega))
      have f0 := (unhide Rk).free 0
      have f1 := (unhide Rk).free 1
      have r0 := (unhide Rk).c0
      have r1 := (unhide Rk).c1
      have LM := hide (show L.length = m by
        have := (unhide PT).ow.1
        rw [flatF_len] at this
        omega)
      have BB := hide (grow_low (unhide W3).b (unhide PT).gr ⟨by omega, by omega⟩)
      have EN := hide (endedD (y := ⟨x.room, a, c, L⟩) (base0 := W.heap.size) (unhide BB) (unhide Rk) (by unfold OwD; simp only [unhide LM]; exact (unhide PT).ow) (by omega))
      simp only [unhide LM] at EN
      go_wp2
      refine bodyPost_ret (v := .agg #[.int .i64 x.room, .slice a m c]) (by simp [results, Try.results30, go_sem, r0, r1]) rfl ⟨⟨x.room, a, c, L⟩, by rw [unhide TL], by simp [unhide LM], (unhide EN).1, (unhide EN).2⟩
end Go.Proofs.Yticofefdbjihiaa.SClear15
namespace Go.Proofs.Yticofefdbjihiaa.Len15
open Fil14 DiskH14 SDk14 SOk14 SRd14 SAppend14 SSync14 SCut14 SegP15 SLate15 SAdd15 SMend15 SFrom15 SClear15
theorem len_late {room : Int} {ps : List TF} (seg : Int) (s : ByteArray) (h : ps.length ≤ 1048576) : (lateD room ps seg s).1.2.length ≤ 1048576 := by
  unfold lateD
  split
  · exact LenAppend14.len_append seg _ h
  · simp
theorem len_add {room : Int} {ps : List TF} (seg : Int) (s : ByteArray) (h : ps.length ≤ 1048576) : (addD room ps seg s).1.2.length ≤ 1048576 := by
  unfold addD
  split
  · exact LenSync14.len_sync seg (len_late seg s h)
  · exact len_late seg s h
theorem len_mend {room : Int} {ps : List TF} (seg : Int) (h : ps.length ≤ 1048576) : (mendD room ps seg).1.2.length ≤ 1048576 := by
  unfold mendD
  split
  · exact LenCut14.len_cut seg _ h
  · simp
theorem len_segs {room : Int} {ps : List TF} (seg : Int) : (segD room ps seg).1.length ≤ 1048576 := by
  unfold segD
  split
  · have := segS_len (Conv15.nums (readD room ps seg).1) 6
    show (segS _ 6).1.length ≤ _
    omega
  · simp
theorem fromS_len (ps : List TF) (s : Int) : ∀ j, (fromS ps s j).1.length ≤ j
  | 0 => by simp [fromS]
  | j + 1 => by
    have := fromS_len ps s j
    rw [fromS]
    split <;> simp <;> omega
theorem len_from {room : Int} {ps : List TF} (s : Int) : (fromD room ps s).length ≤ 1048576 := by
  unfold fromD
  split
  · have := fromS_len ps s 20
    omega
  · simp
theorem len_clear {room : Int} {ps : List TF} (ks : List Int) (h : ps.length ≤ 1048576) : (clearD room ps ks).2.length ≤ 1048576 := by
  unfold clearD
  split
  · have := List.length_filter_le (stays ks) ps
    show (ps.filter (stays ks)).length ≤ _
    omega
  · simp
end Go.Proofs.Yticofefdbjihiaa.Len15
namespace Go.Proofs.Yticofefdbjihiaa.VOI
open Go.ChangeShapes Go.WideShapes Go.ChangeAt Go.RowKit
open Ints (Own At marks marks_len marks_getD hide unhide)
/-- A list of the call's own, from block number base on; nil where it is empty, perhaps. -/
def Ob (w : World) (base : Nat) (a : Option Addr) (n cap : Nat) (xs : List Int) : Prop := w.ownsRow base 3 1 (.slice a n cap) n (xs.map (Value.int .i64))
theorem Ob.of {w : World} {base g n cap : Nat} {xs : List Int} (h : Own w base g n cap xs) : Ob w base (some ⟨g, 0, none⟩) n cap xs := h
theorem Ob.nil (w : World) (base : Nat) : Ob w base none 0 0 [] := World.ownsRow_nil w base _ _
section
variable {w w' : World} {base n cap : Nat} {a : Option Addr} {xs : List Int}
theorem Ob.len (h : Ob w base a n cap xs) : xs.length = n := by have := h.1; simpa using this
theorem Ob.either (h : Ob w base a n cap xs) : (a = none ∧ n = 0 ∧ xs = []) ∨ ∃ g, a = some ⟨g, 0, none⟩ ∧ Own w base g n cap xs := by
  have hl := h.len
  rcases h.2 with ⟨h1, _⟩ | ⟨g, c, cur, h1, _⟩
  · have : a = none ∧ n = 0 ∧ cap = 0 := by simpa using h1
    obtain ⟨rfl, rfl, rfl⟩ := this
    exact .inl ⟨rfl, rfl, List.eq_nil_of_length_eq_zero hl⟩
  · have : a = some ⟨g, 0, none⟩ ∧ cap = c := by simpa using h1
    obtain ⟨rfl, rfl⟩ := this
    exact .inr ⟨g, rfl, h⟩
/-- Its block lies between two numbers. -/
def Btw (lo hi : Nat) (a : Option Addr) : Prop := ∀ x, a = some x → lo ≤ x.block ∧ x.block < hi
theorem Ob.btw (h : Ob w base a n cap xs) : Btw base w.heap.size a := by
  intro x hx
  rcases h.either with ⟨rfl, _⟩ | ⟨g, rfl, o⟩
  · cases hx
  · cases hx; exact o.lt
theorem Btw.mono {lo hi lo' hi' : Nat} (h : Btw lo hi a) (h1 : lo' ≤ lo) (h2 : hi ≤ hi') : Btw lo' hi' a := fun x hx => ⟨Nat.le_trans h1 (h x hx).1, Nat.lt_of_lt_of_le (h x hx).2 h2⟩
theorem Ob.mono {base' : Nat} (h : Ob w base a n cap xs) (hb : base' ≤ base) : Ob w base' a n cap xs := by
  rcases h.either with ⟨rfl, rfl, rfl⟩ | ⟨g, rfl, o⟩
  · refine ⟨h.1, ?_⟩
    rcases h.2 with h | ⟨g, c, cur, h1, _⟩
    · exact .inl h
    · simp at h1
  · exact o.mono hb
theorem Ob.below {B : Nat} (h : Ob w base a n cap xs) (k : Below B w w') (hb : Btw 0 B a) : Ob w' base a n cap xs := by
  rcases h.either with ⟨rfl, rfl, rfl⟩ | ⟨g, rfl, o⟩
  · refine ⟨h.1, ?_⟩
    rcases h.2 with h | ⟨g, c, cur, h1, _⟩
    · exact .inl h
    · simp at h1
  · exact o.below k (hb _ rfl).2
theorem Ob.step (h : Ob w base a n cap xs) (k : Below w.heap.size w w') : Ob w' base a n cap xs := h.below k (h.btw.mono (Nat.zero_le _) (Nat.le_refl _))
theorem Ob.kept {row : Option Nat} (h : Ob w base a n cap xs) (k : w.grownBy w' row) (hr : ∀ x, a = some x → some x.block ≠ row) : Ob w' base a n cap xs := by
  rcases h.either with ⟨rfl, rfl, rfl⟩ | ⟨g, rfl, o⟩
  · refine ⟨h.1, ?_⟩
    rcases h.2 with h | ⟨g, c, cur, h1, _⟩
    · exact .inl h
    · simp at h1
  · exact o.kept k (hr _ rfl)
end
/-- What is read of it. -/
def Rd (w : World) (a : Option Addr) (xs : List Int) : Prop := xs = [] ∨ ∃ g, a = some ⟨g, 0, none⟩ ∧ g < w.heap.size ∧ At w g xs
theorem Ob.rd {w : World} {base n cap : Nat} {a : Option Addr} {xs : List Int} (h : Ob w base a n cap xs) : Rd w a xs := by
  rcases h.either with ⟨rfl, rfl, rfl⟩ | ⟨g, rfl, o⟩
  · exact .inl rfl
  · exact .inr ⟨g, rfl, o.lt.2, o.at⟩
theorem Rd.below {w w' : World} {a : Option Addr} {xs : List Int} (h : Rd w a xs) (k : Below w.heap.size w w') : Rd w' a xs := by
  rcases h with h | ⟨g, e, hl, hc⟩
  · exact .inl h
  · exact .inr ⟨g, e, Nat.lt_of_lt_of_le hl k.size, hc.below k hl⟩
set_option maxRecDepth 100000 in
theorem eqO (w : World) (a1 a2 : Option Addr) (n c1 c2 : Nat) (xs : List Int) (hl : xs.length = n) (h20 : n ≤ 1048576) (h1 : Rd w a1 xs) (h2 : Rd w a2 xs) :
    Calls Try.prog 27 #[.slice a1 n c1, .slice a2 n c2] w fun e w' => e = .returned (.bool true) ∧ Below w.heap.size w w' := by
  rcases h1 with rfl | ⟨g1, rfl, _, h1⟩
  case inr =>
    rcases h2 with rfl | ⟨g2, rfl, _, h2⟩
    case inr => exact Ints.eqIntS w g1 g2 n c1 c2 xs hl h20 h1 h2
    case inl =>
      obtain rfl : n = 0 := by simpa using hl.symm
      go_enter Try.func27, Try.ntmps27
      go_wp2
      go_loopw [5] (fun i wr => i = .int .i64 0 ∧ wr = w) (fun _ _ => 0)
      case atStart => exact ⟨rfl, rfl⟩
      case round =>
        obtain ⟨rfl, rfl⟩ := hrel
        go_wp2
        go_ret
        exact ⟨rfl, Below.refl _ _⟩
  case inl =>
    obtain rfl : n = 0 := by simpa using hl.symm
    go_enter Try.func27, Try.ntmps27
    go_wp2
    go_loopw [5] (fun i wr => i = .int .i64 0 ∧ wr = w) (fun _ _ => 0)
    case atStart => exact ⟨rfl, rfl⟩
    case round =>
      obtain ⟨rfl, rfl⟩ := hrel
      go_wp2
      go_ret
      exact ⟨rfl, Below.refl _ _⟩
/-- The block of a list, if it has one. -/
def blk (a : Option Addr) : Option Nat := a.map (·.block)
set_option maxRecDepth 100000 in
theorem markO (w : World) (base n cap : Nat) (a : Option Addr) (xs : List Int) (h20 : n ≤ 1048576) (ho : Ob w base a n cap xs) :
    Calls Try.prog 28 #[.slice a n cap, .int .i64 1] w fun e w' => e = .returned (.int .i64 (1 + (n : Int))) ∧ Ob w' base a n cap (marks 1 n) ∧ w.grownBy w' (blk a) := by
  rcases ho.either with ⟨rfl, rfl, rfl⟩ | ⟨g, rfl, o⟩
  · have HO := hide ho
    clear ho
    go_enter Try.func28, Try.ntmps28
    go_wp2
    go_loopw [1, 5] (fun m i wr => m = .int .i64 1 ∧ i = .int .i64 0 ∧ wr = w) (fun _ _ _ => 0)
    case atStart => exact ⟨rfl, rfl, rfl⟩
    case round =>
      obtain ⟨rfl, rfl, rfl⟩ := hrel
      go_wp2
      go_ret
      exact ⟨rfl, unhide HO, World.grownBy.refl _ _⟩
  · exact Ints.markIntS w base g n cap 1 xs h20 (by omega) (by omega) o
set_option maxRecDepth 100000 in
theorem heldO (w : World) (n cap : Nat) (a : Option Addr) (h20 : n ≤ 1048576) (h : Rd w a (marks 1 n)) :
    Calls Try.prog 29 #[.slice a n cap, .int .i64 1] w fun e w' => e = .returned (.int .i64 (1 + (n : Int))) ∧ w' = w := by
  go_enter Try.func29, Try.ntmps29
  go_wp2
  go_loop [1, 5] (fun m i => ∃ (k : Nat), k ≤ n ∧ i = .int .i64 k ∧ m = .int .i64 (1 + (k : Int))) (fun _ i => n - (intOf i).toNat)
  case atStart => exact ⟨0, by omega, rfl, by go_num⟩
  case round =>
    obtain ⟨k, hk, rfl, rfl⟩ := hrel
    by_cases t : k < n
    · rcases h with h | ⟨g, rfl, _, h⟩
      · have := congrArg List.length h
        rw [marks_len] at this
        simp at this
        omega
      have e1 := h k (by rw [marks_len]; exact t)
      rw [marks_getD 1 n k t] at e1
      clear h
      go_wp2
      go_round
      case rel => exact ⟨k + 1, by omega, by go_num, by go_num⟩
      case measure => simp [intOf]; omega
    · obtain rfl : k = n := by omega
      clear h
      go_wp2
      go_ret
      exact ⟨rfl, rfl⟩
end Go.Proofs.Yticofefdbjihiaa.VOI
namespace Go.Proofs.Yticofefdbjihiaa.LawL15
open Go.ChangeShapes Go.WideShapes Go.ChangeAt Go.RowKit Fil14 OpensF14 DiskH14 DkH14 SCom14 Law14
theorem grown_of {W W' : World} {y : Dx} (k : TurnD y W W') : W.grownBy W' (Value.slice y.a y.ps.length y.c).ownBlock := ⟨k.os, k.tape, k.output, k.size, k.block⟩
/-- What marks on a list turn lies from its block on. -/
theorem below_blk {W W' : World} {a : Option Addr} {lo : Nat} (h : W.grownBy W' (VOI.blk a)) (hb : ∀ x, a = some x → lo ≤ x.block) (hl : lo ≤ W.heap.size) : Below lo W W' :=
  ⟨h.os, h.tape, h.output, h.size, fun k hk => h.block k (by omega) (fun e => by
    cases a with
    | none => simp [VOI.blk] at e
    | some x =>
      have := hb x rfl
      simp [VOI.blk] at e
      omega)⟩
theorem below_blkS {W W' : World} {a : Option Addr} {lo : Nat} (h : W.grownBy W' (StrO15.blk a)) (hb : ∀ x, a = some x → lo ≤ x.block) (hl : lo ≤ W.heap.size) : Below lo W W' := below_blk (a := a) h hb hl
theorem rd_kept {W W' : World} {x : Dx} {G : Nat} (h : RdD W x) (k : W.grownBy W' (some G)) (n : ∀ g, x.a = some ⟨g, 0, none⟩ → g ≠ G) : RdD W' x :=
  ⟨h.e, fun g e => ⟨Nat.lt_of_lt_of_le (h.r g e).1 k.size, fun i hi => by
    obtain ⟨p0, p1, p2⟩ := (h.r g e).2 i hi
    have q := fun o => App14.kcell k o (h.r g e).1 (n g e)
    exact ⟨(q _).trans p0, (q _).trans p1, (q _).trans p2⟩⟩, h.n⟩
theorem own_kept {W W' : World} {base : Nat} {x : Dx} {G : Nat} (h : OwD W base x) (k : W.grownBy W' (some G)) (n : ∀ g, (Value.slice x.a x.ps.length x.c).ownBlock = some g → g ≠ G) : OwD W' base x :=
  World.ownsRow.kept h k (by
    cases e : (Value.slice x.a x.ps.length x.c).ownBlock with
    | none => exact .inl rfl
    | some g => exact .inr (fun q => n g e (Option.some.inj q)))
theorem _root_.Go.Proofs.Yticofefdbjihiaa.Law14.Kd.kept {W W' : World} {g : Nat} {x : Dx} {G : Nat} (h : Kd W g x) (k : W.grownBy W' (some G)) (n : g ≠ G) : Kd W' g x :=
  ⟨(App14.kcell k 0 h.lt n).trans h.c0, (App14.kcell k 1 h.lt n).trans h.c1, Nat.lt_of_lt_of_le h.lt k.size⟩
end Go.Proofs.Yticofefdbjihiaa.LawL15
namespace Go.Proofs.Yticofefdbjihiaa.StrH15
open Go.ChangeShapes Go.WideShapes Go.ChangeAt Go.RowKit
open Fil14 (hide unhide)
open MarkF14 (mt markT)
open StrO15
set_option maxRecDepth 100000 in
theorem eqS (w : World) (g1 g2 n c1 c2 : Nat) (xs : List ByteArray) (hl : xs.length = n) (h20 : n ≤ 1048576) (h1 : At w g1 xs) (h2 : At w g2 xs) :
    Calls Try.prog 13 #[.slice (some ⟨g1, 0, none⟩) n c1, .slice (some ⟨g2, 0, none⟩) n c2] w fun e w' => e = .returned (.bool true) ∧ Below w.heap.size w w' := by
  go_enter Try.func13, Try.ntmps13
  go_wp2
  go_loopw [5] (fun i wr => ∃ (k : Nat), k ≤ n ∧ i = .int .i64 k ∧ At wr g1 xs ∧ At wr g2 xs ∧ Below w.heap.size w wr) (fun i _ => n - (intOf i).toNat)
  case atStart => exact ⟨0, by omega, rfl, h1, h2, Below.refl _ _⟩
  case round =>
    clear h1 h2
    obtain ⟨k, hk, rfl, h1, h2, hb⟩ := hrel
    by_cases t : k < n
    · have e1 := h1 k (by omega)
      have e2 := h2 k (by omega)
      have H1 := hide h1
      have H2 := hide h2
      have HB := hide hb
      clear h1 h2 hb
      generalize xs.getD k ByteArray.empty = z at *
      go_wp2
      go_region
      go_wp2
      go_roundw
      case rel => exact ⟨k + 1, by omega, by go_num, unhide H1, unhide H2, (unhide HB).drew⟩
      case measure => simp [intOf]; omega
    · have HB := hide hb
      clear h1 h2 hb
      go_wp2
      go_ret
      exact ⟨rfl, unhide HB⟩
set_option maxRecDepth 100000 in
theorem eqO (w : World) (a1 a2 : Option Addr) (n c1 c2 : Nat) (xs : List ByteArray) (hl : xs.length = n) (h20 : n ≤ 1048576) (h1 : Rd w a1 xs) (h2 : Rd w a2 xs) :
    Calls Try.prog 13 #[.slice a1 n c1, .slice a2 n c2] w fun e w' => e = .returned (.bool true) ∧ Below w.heap.size w w' := by
  rcases h1 with rfl | ⟨g1, rfl, _, h1⟩
  case inr =>
    rcases h2 with rfl | ⟨g2, rfl, _, h2⟩
    case inr => exact eqS w g1 g2 n c1 c2 xs hl h20 h1 h2
    case inl =>
      obtain rfl : n = 0 := by simpa using hl.symm
      go_enter Try.func13, Try.ntmps13
      go_wp2
      go_loopw [5] (fun i wr => i = .int .i64 0 ∧ wr = w) (fun _ _ => 0)
      case atStart => exact ⟨rfl, rfl⟩
      case round =>
        obtain ⟨rfl, rfl⟩ := hrel
        go_wp2
        go_ret
        exact ⟨rfl, Below.refl _ _⟩
  case inl =>
    obtain rfl : n = 0 := by simpa using hl.symm
    go_enter Try.func13, Try.ntmps13
    go_wp2
    go_loopw [5] (fun i wr => i = .int .i64 0 ∧ wr = w) (fun _ _ => 0)
    case atStart => exact ⟨rfl, rfl⟩
    case round =>
      obtain ⟨rfl, rfl⟩ := hrel
      go_wp2
      go_ret
      exact ⟨rfl, Below.refl _ _⟩
/-- The marks: texts from k on. -/
def marks (k : Int) (n : Nat) : List ByteArray := (List.range n).map fun (i : Nat) => mt (k + i)
theorem marks_len (k : Int) (n : Nat) : (marks k n).length = n := by simp [marks]
theorem marks_getD (k : Int) (n i : Nat) (h : i < n) : (marks k n).getD i ByteArray.empty = mt (k + i) := by simp [marks, List.getD, h]
/-- The marks so far, and what stood behind. -/
def marked (xs : List ByteArray) (k : Int) (n j : Nat) : List ByteArray := (marks k n).take j ++ xs.drop j
theorem marked_zero (xs : List ByteArray) (k : Int) (n : Nat) : marked xs k n 0 = xs := by simp [marked]
theorem marked_all (xs : List ByteArray) (k : Int) (n : Nat) (h : xs.length = n) : marked xs k n n = marks k n := by
  unfold marked
  rw [List.take_of_length_le (by rw [marks_len]; exact Nat.le_refl _), List.drop_of_length_le (by omega), List.append_nil]
theorem marked_step (xs : List ByteArray) (k : Int) (n j : Nat) (h : xs.length = n) (hj : j < n) : (marked xs k n j).set j (mt (k + j)) = marked xs k n (j + 1) := by
  unfold marked
  have l := marks_len k n
  have g := marks_getD k n j hj
  have l1 : ((marks k n).take j).length = j := by simp; omega
  have l2 : ((marks k n).take (j + 1)).length = j + 1 := by simp; omega
  apply List.ext_getElem?
  intro i
  rw [List.getElem?_set]
  by_cases e : j = i
  · subst e
    rw [if_pos rfl, if_pos (by simp; omega), List.getElem?_append_left (by omega), List.getElem?_take, if_pos (by omega), ← g]
    simp [List.getD, l, hj]
  · rw [if_neg e]
    by_cases s : i < j
    · rw [List.getElem?_append_left (by omega), List.getElem?_append_left (by omega), List.getElem?_take, List.getElem?_take, if_pos s, if_pos (by omega)]
    · rw [List.getElem?_append_right (by omega), List.getElem?_append_right (by omega), l1, l2]
      simp only [List.getElem?_drop]
      congr 1
      omega
set_option maxRecDepth 100000 in
theorem markS (w : World) (base g n cap : Nat) (s : Int) (xs : List ByteArray) (h20 : n ≤ 1048576) (s0 : 0 < s) (s1 : s ≤ 1000) (hb : base ≤ w.heap.size) (ho : Own w base g n cap xs) :
    Calls Try.prog 16 #[.slice (some ⟨g, 0, none⟩) n cap, .int .i64 s] w fun e w' => e = .returned (.int .i64 (s + (n : Int))) ∧ Own w' base g n cap (marks s n) ∧ w.grownBy w' (some g) := by
  have hl := ho.len
  have HM := hide (show Own w base g n cap (marked xs s n 0) by rw [marked_zero]; exact ho)
  clear ho
  go_enter Try.func16, Try.ntmps16
  go_wp2
  go_loopw [1, 5] (fun m i wr => ∃ (k : Nat), k ≤ n ∧ i = .int .i64 k ∧ m = .int .i64 (s + (k : Int)) ∧ Hid (Own wr base g n cap (marked xs s n k)) ∧ Hid (w.grownBy wr (some g))) (fun _ i _ => n - (intOf i).toNat)
  case atStart => exact ⟨0, by omega, rfl, by go_num, HM, hide (World.grownBy.refl _ _)⟩
  case round =>
    clear HM
    obtain ⟨k, hk, rfl, rfl, HO, HG⟩ := hrel
    by_cases t : k < n
    · have kt : (k : Int) < n := by omega
      have ow := unhide HO
      have hc2 := Own.at ow k (by rw [Own.len ow]; exact t)
      have LT := hide ow.lt
      generalize (marked xs s n k).getD k ByteArray.empty = z at hc2
      clear ow hc2
      go_wp2_with fail
      refine (markT _ (s + k) (by omega) (by omega)).mono ?_
      rintro e w2 ⟨rfl, bb⟩
      have O2 := hide ((unhide HO).below bb (unhide LT).2)
      have hs := hide (Own.set (unhide O2) k (mt (s + k)))
      have hc2 := Own.at (unhide O2) k (by rw [Own.len (unhide O2)]; exact t)
      have hf := Own.free (unhide O2) k
      have G2 := hide (show w.grownBy w2 (some g) from ⟨bb.os.trans (unhide HG).os, bb.tape.trans (unhide HG).tape, bb.output.trans (unhide HG).output, Nat.le_trans (unhide HG).size bb.size, fun j hj hne => (bb.block j (Nat.lt_of_lt_of_le hj (unhide HG).size)).trans ((unhide HG).block j hj hne)⟩)
      generalize (marked xs s n k).getD k ByteArray.empty = z at hc2
      clear bb HO HG
      go_wp2
      go_roundw
      case rel =>
        obtain ⟨o, q⟩ := unhide hs
        rw [marked_step xs s n k hl t] at o
        have G := unhide G2
        exact ⟨k + 1, by omega, by go_num, by go_num, hide o, hide ⟨q.os.trans G.os, q.tape.trans G.tape, q.output.trans G.output, Nat.le_trans G.size q.size, fun j hj hne => (q.block j (Nat.lt_of_lt_of_le hj G.size) hne).trans (G.block j hj hne)⟩⟩
      case measure => simp [intOf]; omega
    · obtain rfl : k = n := by omega
      have FO := hide (show Own wr base g k cap (marks s k) by have h := unhide HO; rw [marked_all xs s k hl] at h; exact h)
      clear HO
      go_wp2
      go_ret
      exact ⟨rfl, unhide FO, unhide HG⟩
set_option maxRecDepth 100000 in
theorem markO (w : World) (base n cap : Nat) (a : Option Addr) (xs : List ByteArray) (h20 : n ≤ 1048576) (hb : base ≤ w.heap.size) (ho : Ob w base a n cap xs) :
    Calls Try.prog 16 #[.slice a n cap, .int .i64 1] w fun e w' => e = .returned (.int .i64 (1 + (n : Int))) ∧ Ob w' base a n cap (marks 1 n) ∧ w.grownBy w' (blk a) := by
  rcases ho.either with ⟨rfl, rfl, rfl⟩ | ⟨g, rfl, o⟩
  · have HO := hide ho
    clear ho
    go_enter Try.func16, Try.ntmps16
    go_wp2
    go_loopw [1, 5] (fun m i wr => m = .int .i64 1 ∧ i = .int .i64 0 ∧ wr = w) (fun _ _ _ => 0)
    case atStart => exact ⟨rfl, rfl, rfl⟩
    case round =>
      obtain ⟨rfl, rfl, rfl⟩ := hrel
      go_wp2
      go_ret
      exact ⟨rfl, unhide HO, World.grownBy.refl _ _⟩
  · exact markS w base g n cap 1 xs h20 (by omega) (by omega) hb o
abbrev oH0 : Oper := { dst := some 12, op := Go.Op.move (Go.Operand.tmp 0), type := 26, pos := "exact.go:1130", after := #[], guard := none }
abbrev oH1 : Oper := { dst := some 13, op := Go.Op.move (Go.Operand.tmp 5), type := 3, pos := "exact.go:1130", after := #[], guard := none }
abbrev oH2 : Oper := { dst := some 14, op := Go.Op.indexAddr 26 (Go.Operand.tmp 12) (Go.Operand.tmp 13), type := 0, pos := "exact.go:1130", after := #[{ on := 0, ground := Go.Ground.data }, { on := 1, ground := Go.Ground.data }], guard := none }
abbrev oH3 : Oper := { dst := some 15, op := Go.Op.load 9 (Go.Operand.tmp 14), type := 9, pos := "exact.go:1130", after := #[{ on := 2, ground := Go.Ground.data }], guard := none }
abbrev oH4 : Oper := { dst := some 16, op := Go.Op.move (Go.Operand.tmp 1), type := 3, pos := "exact.go:1130", after := #[], guard := none }
abbrev oH5 : Oper := { dst := some 17, op := Go.Op.call { callee := Go.Callee.value (Go.Operand.func 43), args := #[Go.Operand.tmp 16], argTypes := #[3] }, type := 9, pos := "exact.go:1130", after := #[{ on := 4, ground := Go.Ground.data }], guard := none }
abbrev oH6 : Oper := { dst := some 18, op := Go.Op.binOp Go.BinOp.neq 9 (Go.Operand.tmp 15) (Go.Operand.tmp 17) 9, type := 4, pos := "exact.go:1130", after := #[{ on := 3, ground := Go.Ground.data }, { on := 5, ground := Go.Ground.data }], guard := none }
set_option maxRecDepth 100000 in
theorem heldO (w : World) (n cap : Nat) (a : Option Addr) (h20 : n ≤ 1048576) (h : Rd w a (marks 1 n)) :
    Calls Try.prog 17 #[.slice a n cap, .int .i64 1] w fun e w' => e = .returned (.int .i64 (1 + (n : Int))) ∧ Below w.heap.size w w' := by
  have HR := hide h
  clear h
  go_enter Try.func17, Try.ntmps17
  go_wp2
  go_loopw [1, 5] (fun m i wr => ∃ (k : Nat), k ≤ n ∧ i = .int .i64 k ∧ m = .int .i64 (1 + (k : Int)) ∧ Hid (Below w.heap.size w wr)) (fun _ i _ => n - (intOf i).toNat)
  case atStart => exact ⟨0, by omega, rfl, by go_num, hide (Below.refl _ _)⟩
  case round =>
    obtain ⟨k, hk, rfl, rfl, HB⟩ := hrel
    by_cases t : k < n
    · have kt : (k : Int) < n := by omega
      rcases (unhide HR).below (unhide HB) with h | ⟨g, rfl, _, h⟩
      · have := congrArg List.length h
        rw [marks_len] at this
        simp at this
        omega
      have e1 := h k (by rw [marks_len]; exact t)
      rw [marks_getD 1 n k t] at e1
      have MT := hide (fun u => markT u (1 + (k : Int)) (by omega) (by omega))
      generalize mt (1 + (k : Int)) = z at *
      clear h
      have K0 : wr.cell? ⟨g, k, none⟩ = some (.string z) := e1
      clear e1
      go_wp2_with fail
      refine wp_region_held_drew (S := (fun w' => w'.cell? ⟨g, k, none⟩ = some (.string z))) (by kernel_rfl) K0 (fun hHeld => ?_)
      refine wpAnyH_take (i := 0) (oi := oH0) (v := .slice (some ⟨g, 0, none⟩) n cap) rfl (by kernel_rfl) (by kernel_rfl) (by kernel_rfl) (fun _ _ _ h => h) (Or.inl ⟨by rfl, fun w hSw => ?_⟩) hHeld ?_
      · (try dsimp only at hSw)
        unfold oH0
        go_simp
      try simp only [oH0, Act.put, List.setIfInBounds_toArray, List.set_cons_zero, List.set_cons_succ]
      refine wpAnyH_take (i := 1) (oi := oH1) (v := .int .i64 k) rfl (by kernel_rfl) (by kernel_rfl) (by kernel_rfl) (fun _ _ _ h => h) (Or.inl ⟨by rfl, fun w hSw => ?_⟩) hHeld ?_
      · (try dsimp only at hSw)
        unfold oH1
        go_simp
      try simp only [oH1, Act.put, List.setIfInBounds_toArray, List.set_cons_zero, List.set_cons_succ]
      refine wpAnyH_take (i := 2) (oi := oH2) (v := .pointer (some ⟨g, k, none⟩)) rfl (by kernel_rfl) (by kernel_rfl) (by kernel_rfl) (fun _ _ _ h => h) (Or.inl ⟨by rfl, fun w hSw => ?_⟩) hHeld ?_
      · (try dsimp only at hSw)
        unfold oH2
        go_simp
      try simp only [oH2, Act.put, List.setIfInBounds_toArray, List.set_cons_zero, List.set_cons_succ]
      refine wpAnyH_take (i := 3) (oi := oH3) (v := .string z) rfl (by kernel_rfl) (by kernel_rfl) (by kernel_rfl) (fun _ _ _ h => h) (Or.inl ⟨by rfl, fun w hSw => ?_⟩) hHeld ?_
      · (try dsimp only at hSw)
        unfold oH3
        go_simp
      try simp only [oH3, Act.put, List.setIfInBounds_toArray, List.set_cons_zero, List.set_cons_succ]
      refine wpAnyH_take (i := 4) (oi := oH4) (v := .int .i64 (1 + k)) rfl (by kernel_rfl) (by kernel_rfl) (by kernel_rfl) (fun _ _ _ h => h) (Or.inl ⟨by rfl, fun w hSw => ?_⟩) hHeld ?_
      · (try dsimp only at hSw)
        unfold oH4
        go_simp
      try simp only [oH4, Act.put, List.setIfInBounds_toArray, List.set_cons_zero, List.set_cons_succ]
      refine wpAnyH_ready (rs := [5]) (by kernel_rfl) (by simp) ?_
      refine AllReadyH.cons (o := oH5) rfl (fun K hK => ?_) AllReadyH.nil
      unfold oH5
      go_simp
      go_wp2_with fail
      refine (unhide MT _).mono ?_
      rintro e w3 ⟨rfl, bb⟩
      have bb1 : Below wr.heap.size wr w3 := ⟨bb.os, bb.tape, bb.output, bb.size, bb.block⟩
      have K1 : w3.cell? ⟨g, k, none⟩ = some (.string z) := (bb1.cell (p := ⟨g, k, none⟩) (by assumption)).trans K0
      have B2 := hide ((unhide HB).trans (bb1.mono (unhide HB).size))
      clear bb bb1
      go_wp2_with fail
      refine hK.out _ _ K1 (fun hHeld => ?_)
      clear hK K
      try simp only [oH5, Act.put, List.setIfInBounds_toArray, List.set_cons_zero, List.set_cons_succ]
      refine wpAnyH_take (i := 6) (oi := oH6) (v := .bool false) rfl (by kernel_rfl) (by kernel_rfl) (by kernel_rfl) (fun _ _ _ h => h) (Or.inl ⟨by rfl, fun w hSw => ?_⟩) hHeld ?_
      · (try dsimp only at hSw)
        unfold oH6
        go_simp
      try simp only [oH6, Act.put, List.setIfInBounds_toArray, List.set_cons_zero, List.set_cons_succ]
      refine wpAnyH_done (by kernel_rfl) ?_ _
      clear K0 K1
      go_wp2
      go_roundw
      case rel => exact ⟨k + 1, by omega, by go_num, by go_num, B2⟩
      case measure => simp [intOf]; omega
    · obtain rfl : k = n := by omega
      go_wp2
      go_ret
      exact ⟨rfl, unhide HB⟩
end Go.Proofs.Yticofefdbjihiaa.StrH15
namespace Go.Proofs.Yticofefdbjihiaa.IPuts11
open Go.ChangeShapes Go.WideShapes Go.ChangeAt Go.RowKit SBytes SPut11 SPuts11
open ByteH (Own At)
set_option maxRecDepth 100000 in
set_option maxHeartbeats 4000000 in
theorem iForm (w : World) (base g0 c0 n0 : Nat) (p0 : List Int) (x0 : Int) (h0 : 0 ≤ x0) (hx : x0 ≤ 9223372036854775807) (hn : n0 ≤ 100000000) (hb : base ≤ w.heap.size) (ho : Own w base g0 n0 c0 p0) :
    Calls Try.prog 89 #[.slice (some ⟨g0, 0, none⟩) n0 c0, .int .i64 x0] w fun e w' => ∃ g c, e = .returned (.slice (some ⟨g, 0, none⟩) (n0 + (numF x0.toNat).length) c) ∧ Own w' base g (n0 + (numF x0.toNat).length) c (p0 ++ numF x0.toNat) ∧ Below base w w' := by
  have O0 := hide (show Own w base g0 (n0 + ([] : List Int).length) c0 (p0 ++ []) from by simpa using ho)
  have B0 := hide (Below.refl base w)
  have L := hide (numF_nine (x := x0.toNat) (by omega))
  obtain ⟨r, hr⟩ : ∃ r, Hid (numF x0.toNat = r) := ⟨_, rfl⟩
  rw [unhide hr] at L ⊢
  have S0 := hide (show ([] : List Int) ++ numF x0.toNat = r from unhide hr)
  clear hr ho
  go_enter Try.func89, Try.ntmps89
  go_wp2
  go_loopw [0, 1] (fun l a wr => ∃ (x : Int) (p : List Int) (g c n : Nat), a = .int .i64 x ∧ l = .slice (some ⟨g, 0, none⟩) n c ∧ n = n0 + p.length ∧ 0 ≤ x ∧ x ≤ 9223372036854775807 ∧ Hid (p ++ numF x.toNat = r) ∧ Hid (Own wr base g n c (p0 ++ p)) ∧ Hid (Below base w wr)) (fun _ a _ => (intOf a).toNat)
  case atStart => exact ⟨x0, [], g0, c0, n0, rfl, rfl, by simp, h0, hx, S0, O0, B0⟩
  case round =>
    clear O0 B0 S0 hx h0
    obtain ⟨x, p, g, c, n, rfl, rfl, hnp, x1, x2, HR, HO, HB⟩ := hrel
    have bs := (unhide HB).size
    have pl : p.length ≤ 9 := by have a := unhide L; rw [← unhide HR] at a; simp at a; omega
    have nl : n ≤ 100000009 := by omega
    have HN := hide hnp
    have og := (unhide HO).lt
    have HX := hide (And.intro x1 x2)
    clear hnp
    by_cases t : 127 < x
    · have N := hide (show (p ++ [x % 128 + 128]) ++ numF (x / 128).toNat = r from by
        rw [← unhide HR, numF_more (x := x.toNat) (by omega), List.append_assoc]
        have e1 : ((x.toNat % 128 + 128 : Nat) : Int) = x % 128 + 128 := by omega
        have e2 : x.toNat / 128 = (x / 128).toNat := by omega
        rw [e1, e2]; rfl)
      clear HR x1 x2
      go_wp2_with (first | (at_builtin; refine wp_catB _ rfl _ _ rfl base g n c 1 (p0 ++ p) [x % 128 + 128] wr.heap.size 0 1 rfl rfl (own_alloc (unhide HO) _) rfl (lit_one _ _) (by omega) (by simp; omega) ?_) | go_in)
      intro g5 c5 w5 o5 gr5 loc5
      have O5 := hide o5
      have B5 := hide (((unhide HB).alloc (by omega) (.cells #[.int .u8 (x % 128 + 128)] 5)).grown gr5 (by simp; omega) (fun j hj => by cases hj; exact og.1))
      clear o5 gr5 loc5
      go_wp2
      go_roundw
      case rel =>
        have xx := unhide HX
        exact ⟨x / 128, p ++ [x % 128 + 128], g5, c5, n + 1, by simp, rfl, by have := unhide HN; simp; omega, by omega, by omega, N, O5, B5⟩
      case measure =>
        have xx := unhide HX
        simp [intOf]
        omega
    · have N := hide (show p ++ [x] = r from by
        rw [← unhide HR, numF_last (x := x.toNat) (by omega)]
        have e1 : ((x.toNat : Nat) : Int) = x := by omega
        rw [e1])
      clear HR
      go_wp2_with (first | (at_builtin; refine wp_catB _ rfl _ _ rfl base g n c 1 (p0 ++ p) [x] wr.heap.size 0 1 rfl rfl (own_alloc (unhide HO) _) rfl (lit_one _ _) (by omega) (by simp; omega) ?_) | go_in)
      intro g5 c5 w5 o5 gr5 loc5
      have O5 := hide o5
      have B5 := hide (((unhide HB).alloc (by omega) (.cells #[.int .u8 x] 5)).grown gr5 (by simp; omega) (fun j hj => by cases hj; exact og.1))
      clear o5 gr5 loc5
      go_wp2
      go_ret
      have e := unhide N
      have e1 : n0 + r.length = n + 1 := by rw [← e, unhide HN]; simp; omega
      exact ⟨g5, c5, by rw [e1]; rfl, by rw [e1, ← e]; exact unhide O5, unhide B5⟩
set_option maxRecDepth 100000 in
set_option maxHeartbeats 4000000 in
theorem iPutNums (w : World) (gl cl : Nat) (xs : List Int) (h20 : xs.length ≤ 1048576) (hg : gl < w.heap.size) (hr : Ints.At w gl xs) (hi : ∀ i, i < xs.length → xs.getD i 0 ≤ 9223372036854775807) :
    Calls Try.prog 88 #[.slice (some ⟨gl, 0, none⟩) xs.length cl] w fun e w' => ∃ a c, e = .returned (.slice a (numsB xs).length c) ∧ VOB.Ob w' w.heap.size a (numsB xs).length c (numsB xs) ∧ Below w.heap.size w w' := by
  have O0 := hide (lit0 w w.heap.size (Nat.le_refl _) rfl)
  have B0 := hide (one_more w (.cells #[] 5))
  have R := hide hr
  have HI := hide hi
  have HG := hide hg
  obtain ⟨r, hq⟩ : ∃ r, Hid (numsB xs = r) := ⟨_, rfl⟩
  rw [unhide hq]
  clear hr hi hg
  go_enter Try.func88, Try.ntmps88
  go_wp2
  go_loopw [3, 5, 9] (fun l _ a wr => ∃ (k g c n : Nat), a = .int .i64 k ∧ k ≤ xs.length ∧ l = .slice (some ⟨g, 0, none⟩) n c ∧ n ≤ 9 * k ∧ Hid (n = ((xs.take k).flatMap numB).length) ∧ Hid (∀ i, i < k → 0 ≤ xs.getD i 0) ∧ Hid (Own wr w.heap.size g n c ((xs.take k).flatMap numB)) ∧ Hid (Below w.heap.size w wr)) (fun _ _ a _ => xs.length - (intOf a).toNat)
  case atStart => exact ⟨0, w.heap.size, 0, 0, rfl, by omega, rfl, by omega, hide (by simp), hide (fun i h => absurd h (by omega)), hide (by simpa using unhide O0), B0⟩
  case round =>
    clear O0 B0
    obtain ⟨k, g, c, n, rfl, hk, rfl, nk, HN, HP, HO, HB⟩ := hrel
    have bs := (unhide HB).size
    by_cases t : k < xs.length
    · have d := (((unhide R).below (unhide HB) (unhide HG)) k t)
      have NX := hide (flat_next t)
      have HX := hide ((unhide HI) k t)
      have SG := hide (show 0 ≤ xs.getD k 0 → ∀ i, i < k + 1 → 0 ≤ xs.getD i 0 from fun h i hi => by
        by_cases e : i = k
        · subst e; exact h
        · exact (unhide HP) i (by omega))
      have BAD := hide (show xs.getD k 0 < 0 → r = [] from fun h => by rw [← unhide hq]; exact if_neg (fun a => by have := a k t; omega))
      clear HP
      generalize xs.getD k 0 = y at *
      have kx : (k : Int) < xs.length := by omega
      by_cases y0 : y < 0
      · have e := (unhide BAD) y0
        subst e
        have O5 := hide (lit0 wr w.heap.size bs rfl)
        have B5 := hide ((unhide HB).alloc bs (.cells #[] 5))
        clear BAD SG NX HX hq HI R
        go_wp2
        go_ret
        exact ⟨_, 0, rfl, .of (unhide O5), unhide B5⟩
      · have S1 := hide ((unhide SG) (by omega))
        have NB := hide (numB_pos (x := y) (by omega))
        have nine := numB_nine (unhide HX)
        rw [unhide NB] at nine
        have y1 : 0 ≤ y := by omega
        have FM := hide (iForm wr w.heap.size g c n _ y y1 (unhide HX) (by omega) bs (unhide HO))
        clear BAD SG
        go_wp2_with fail
        refine (unhide FM).mono ?_
        rintro e u ⟨g5, c5, rfl, o5, b5⟩
        have O5 := hide o5
        have B5 := hide ((unhide HB).trans b5)
        clear o5 b5 FM HO
        go_wp2
        go_roundw
        case rel => exact ⟨k + 1, g5, c5, n + (numF y.toNat).length, by go_num, by omega, rfl, by omega, hide (by rw [unhide NX, List.length_append, ← unhide HN, unhide NB]), S1, hide (by rw [unhide NX, unhide NB]; exact unhide O5), B5⟩
        case measure => simp [intOf]; omega
    · have e : k = xs.length := by omega
      subst e
      have E := hide (show xs.flatMap numB = r from by rw [← unhide hq]; exact (if_pos (unhide HP)).symm)
      have N := unhide HN
      have O := unhide HO
      rw [List.take_length] at N O
      rw [unhide E] at N O
      have O5 := hide O
      have N5 := hide N
      clear N O HN HO HP
      go_wp2
      go_ret
      have e := unhide N5
      subst e
      exact ⟨_, c, rfl, .of (unhide O5), unhide HB⟩
end Go.Proofs.Yticofefdbjihiaa.IPuts11
namespace Go.Proofs.Yticofefdbjihiaa.IPut11
open Go.ChangeShapes Go.WideShapes Go.ChangeAt Go.RowKit SBytes SPut11 SPuts11
theorem nums_one (x : Int) : numsB [x] = numB x := by
  unfold numsB
  by_cases h : x < 0
  · rw [if_neg (fun a => by have := a 0 (by simp); simp at this; omega)]
    exact (if_pos h).symm
  · rw [if_pos (fun i hi => by
      have : i = 0 := by simpa using hi
      subst this
      simp
      omega)]
    simp
theorem Ob.rebase {w : World} {base base' n cap : Nat} {a : Option Addr} {xs : List Int} (h : VOB.Ob w base a n cap xs) (hb : base' ≤ base) : VOB.Ob w base' a n cap xs := h.mono hb
set_option maxRecDepth 100000 in
theorem iPutNum (w : World) (x : Int) (hx : x ≤ 9223372036854775807) :
    Calls Try.prog 82 #[.int .i64 x] w fun e w' => ∃ a c, e = .returned (.slice a (numB x).length c) ∧ VOB.Ob w' w.heap.size a (numB x).length c (numB x) ∧ Below w.heap.size w w' := by
  have B0 := hide (one_more w (.cells #[.int .i64 x] 3))
  have M := hide (IPuts11.iPutNums (w.alloc (.cells #[.int .i64 x] 3)) w.heap.size 1 [x] (by simp) (by simp) (fun i hi => by
    have : i = 0 := by simpa using hi
    subst this
    simp) (fun i hi => by
    have : i = 0 := by simpa using hi
    subst this
    simpa using hx))
  rw [nums_one] at M
  generalize numB x = ws at *
  generalize hn : ws.length = nw at *
  have NW := hide hn
  clear hn
  go_enter Try.func82, Try.ntmps82
  go_wp2_with fail
  refine (unhide M).mono ?_
  rintro e u ⟨a, c, rfl, o, b⟩
  have O := hide o
  have B := hide ((unhide B0).trans (b.mono (by simp)))
  clear o b M B0
  go_wp2
  go_ret
  exact ⟨a, c, rfl, (unhide O).mono (by simp), unhide B⟩
end Go.Proofs.Yticofefdbjihiaa.IPut11
namespace Go.Proofs.Yticofefdbjihiaa.ConB11
open Go.ChangeShapes Go.WideShapes Go.ChangeAt Go.RowKit SBytes SPut11
open ByteH (Own At info8)
/-- A list of the call's own, or nothing at all. -/
def OwnV (w : World) (base : Nat) (v : Value) (xs : List Int) : Prop := w.ownsRow base 5 1 v xs.length (xs.map (Value.int .u8))
theorem OwnV.nil (w : World) (base : Nat) : OwnV w base (.slice none 0 0) [] := ⟨rfl, .inl ⟨rfl, rfl⟩⟩
theorem OwnV.lt {w : World} {base : Nat} {v : Value} {xs : List Int} (h : OwnV w base v xs) : ∀ g, v.ownBlock = some g → base ≤ g ∧ g < w.heap.size := fun g hg => World.ownsRow.lt h g hg
theorem OwnV.ob {w : World} {base : Nat} {v : Value} {xs : List Int} (h : OwnV w base v xs) : ∃ a c, v = .slice a xs.length c ∧ VOB.Ob w base a xs.length c xs := by
  have h' := h
  rcases h.2 with ⟨rfl, h2⟩ | ⟨g, c, cur, rfl, _⟩
  · obtain rfl : xs = [] := List.eq_nil_of_length_eq_zero h2
    exact ⟨none, 0, rfl, h'⟩
  · exact ⟨_, c, rfl, h'⟩
theorem AtO.below {w w' : World} {g o B : Nat} {xs : List Int} (h : AtO w g o xs) (k : Below B w w') (hg : g < B) : AtO w' g o xs := fun i hi => (k.cell (p := ⟨g, o + i, none⟩) hg).trans (h i hi)
/-- A list appended to another one, which may be nothing. -/
theorem wp_catV (u : World) {ops : Array Oper} {rest : List Oper} {o : Oper} {a : Act} {Q : Exit → Act → World → Prop} (hgd : o.guard = none) (s x : Operand)
    (ho : o.op = .call { callee := .builtin .append, args := #[s, x], argTypes := #[53, 53] }) (base m : Nat) (v : Value) (ps qs : List Int) (vb off c : Nat)
    (hs : a.eval s = v) (hx : a.eval x = .slice (some ⟨vb, off, none⟩) m c) (hown : OwnV u base v ps) (hl : qs.length = m) (hv : AtO u vb off qs) (hn : ps.length + m ≤ 1048576) (hb : base ≤ u.heap.size)
    (h : ∀ v' w', OwnV w' base v' (ps ++ qs) → u.grownBy w' v.ownBlock → (v'.ownBlock = v.ownBlock ∨ v'.ownBlock = some u.heap.size) → wpList Try.prog ops Q rest (a.put o.dst v') w') : wpList Try.prog ops Q (o :: rest) a u := by
  obtain ⟨i0, hi, hz0, hz1, hz2⟩ := info_parts info8
  refine wpList_append_own_at u hgd s x 53 ho base 5 i0 (.int .u8 0) 1 1 Try.underlying53 hi hz0 hz1 hz2 rfl (by decide) v ps.length _ hs hown ⟨vb, off, none⟩ m c (qs.map (Value.int .u8)) hx (by simp [hl]) (fun j v hj => by
    have hj' : j < qs.length := by
      have := (List.getElem?_eq_some_iff.1 hj).1
      simpa using this
    have := hv j hj'
    rw [Addr.add_lit, this]
    rw [← hj]
    simp [List.getD, hj']) (by intro u hu; obtain ⟨y, _, rfl⟩ := List.mem_map.1 hu; simp [Value.oneCell']) (by unfold maxLen; omega) (by omega) hb ?_
  intro v' w' own' gr' nil' loc'
  refine h v' w' ?_ gr' loc'
  unfold OwnV
  rw [List.map_append, List.length_append, hl]
  exact own'
set_option maxRecDepth 100000 in
theorem grow_none (w : World) : Calls Try.prog 87 #[.slice none 0 0, .int .i64 0] w fun e w' => e = .returned (.slice none 0 0) ∧ Below w.heap.size w w' := by
  go_enter Try.func87, Try.ntmps87
  go_wp2
  go_ret
  exact ⟨rfl, Below.refl _ _⟩
set_option maxRecDepth 100000 in
theorem grow_some (w : World) (k : Nat) (h0 : 0 < k) (h20 : k ≤ 1048576) : Calls Try.prog 87 #[.slice none 0 0, .int .i64 k] w fun e w' => ∃ v, e = .returned v ∧ OwnV w' w.heap.size v [] ∧ Below w.heap.size w w' := by
  obtain ⟨i0, hi, hz0, hz1, hz2⟩ := info_parts info8
  have kp : (0 : Int) < (k : Int) := by omega
  have hold : (Builtin.firstCells i0.size 0 (.slice none 0 0)).run Try.prog w.drew = .ok ([] : List Value).toArray w.drew := run_firstCells_none _ _ _ _ _
  obtain ⟨G, hG⟩ : ∃ G, G = grownCap w k 0 5 := ⟨_, rfl⟩
  have hG1 : k ≤ G := by rw [hG]; exact grownCap_ge w _ _ _
  have hG2 : G ≤ maxLen := by rw [hG]; exact grownCap_le_maxLen w _ _ _ (by unfold maxLen; omega)
  obtain ⟨ROW, hROW⟩ : ∃ ROW : Array Value, ROW = ([] : List Value).toArray ++ Builtin.zeroCells (Value.int .u8 0).cells k ++ Builtin.zeroCells (Value.int .u8 0).cells (G - k) := ⟨_, rfl⟩
  have hrz : ∀ ty, (Builtin.append_ #[53, 3] ty #[.slice none 0 0, .int .i64 (k : Int)]).run Try.prog w = .ok (.slice (some ⟨w.heap.size, 0, none⟩) k G) (w.drew.alloc (.cells ROW 5)) := fun ty => by
    have h := Lib.run_append_grow_zeros w 53 3 ty 5 i0 _ .i64 .i64 Try.underlying53 Try.underlying3 hi hz0 none 0 0 [] hold k h0 (by rw [hz1]; decide) (by omega) (by omega) (by rw [hz2]; omega) (by rw [hz2]; exact growslice_fits (by omega) (by omega))
    rw [Nat.zero_add, ← hG, ← hROW] at h
    exact h
  have hRs : ROW.size = G * 1 := by
    rw [hROW]
    simp [Builtin.zeroCells, Value.cells]
    try omega
  have OV := hide (show OwnV (w.drew.alloc (.cells ROW 5)) w.heap.size (.slice (some ⟨w.heap.size, 0, none⟩) 0 G) [] from ⟨rfl, .inr ⟨w.heap.size, G, ROW, rfl, Nat.le_refl _, heap_alloc_new w.drew _, Nat.zero_le _, hG2, hRs, by simp⟩⟩)
  have BB := hide (show Below w.heap.size w (w.drew.alloc (.cells ROW 5)) from (Below.refl _ _).drew.alloc (Nat.le_refl _) _)
  have G63 : (G : Int) ≤ 9223372036854775807 := by unfold maxLen at hG2; omega
  clear hold hROW hRs hG hi hz0 hz1 hz2
  go_enter Try.func87, Try.ntmps87
  go_wp2_with (first | (at_builtin; refine Lib.wpList_append_run _ rfl _ _ _ _ rfl _ _ rfl rfl _ _ (hrz _) ?_) | go_in)
  go_ret
  exact ⟨_, rfl, unhide OV, unhide BB⟩
set_option maxRecDepth 100000 in
set_option maxHeartbeats 4000000 in
theorem iConcat (w : World) (b g1 o1 n1 c1 g2 o2 n2 c2 g3 o3 n3 c3 : Nat) (p1 p2 p3 : List Int) (l1 : p1.length = n1) (l2 : p2.length = n2) (l3 : p3.length = n3) (h20 : n1 + n2 + n3 ≤ 1048576)
    (hb : b < w.heap.size) (q1 : g1 < w.heap.size) (q2 : g2 < w.heap.size) (q3 : g3 < w.heap.size) (a1 : AtO w g1 o1 p1) (a2 : AtO w g2 o2 p2) (a3 : AtO w g3 o3 p3)
    (s1 : w.cell? ⟨b, 0, none⟩ = some (.slice (some ⟨g1, o1, none⟩) n1 c1)) (s2 : w.cell? ⟨b, 1, none⟩ = some (.slice (some ⟨g2, o2, none⟩) n2 c2)) (s3 : w.cell? ⟨b, 2, none⟩ = some (.slice (some ⟨g3, o3, none⟩) n3 c3)) :
    Calls Try.prog 81 #[.slice (some ⟨b, 0, none⟩) 3 3] w fun e w' => ∃ v, e = .returned v ∧ OwnV w' w.heap.size v (p1 ++ (p2 ++ p3)) ∧ Below w.heap.size w w' := by
  have A1 := hide a1
  have A2 := hide a2
  have A3 := hide a3
  clear a1 a2 a3
  go_enter Try.func81, Try.ntmps81
  go_wp2
  go_loop [3, 5, 11] (fun q _ j => ∃ (k : Nat) (z : Int), j = .int .i64 k ∧ q = .int .i64 z ∧ ((k = 0 ∧ z = 0) ∨ (k = 1 ∧ z = (n1 : Int)) ∨ (k = 2 ∧ z = (n1 : Int) + (n2 : Int)) ∨ (k = 3 ∧ z = (n1 : Int) + (n2 : Int) + (n3 : Int)))) (fun _ _ j => 3 - (intOf j).toNat)
  case atStart => exact ⟨0, 0, rfl, rfl, .inl ⟨rfl, rfl⟩⟩
  case round =>
    obtain ⟨k, z, rfl, rfl, hk⟩ := hrel
    rcases hk with ⟨rfl, rfl⟩ | ⟨rfl, rfl⟩ | ⟨rfl, rfl⟩ | ⟨rfl, rfl⟩
    · go_wp2
      go_round
      case rel => exact ⟨1, (n1 : Int), by go_num, by go_num, .inr (.inl ⟨rfl, rfl⟩)⟩
      case measure => simp [intOf]
    · go_wp2
      go_round
      case rel => exact ⟨2, (n1 : Int) + (n2 : Int), by go_num, by go_num, .inr (.inr (.inl ⟨rfl, rfl⟩))⟩
      case measure => simp [intOf]
    · go_wp2
      go_round
      case rel => exact ⟨3, (n1 : Int) + (n2 : Int) + (n3 : Int), by go_num, by go_num, .inr (.inr (.inr ⟨rfl, rfl⟩))⟩
      case measure => simp [intOf]
    · have GR := hide (show Calls Try.prog 87 #[.slice none 0 0, .int .i64 ((n1 : Int) + (n2 : Int) + (n3 : Int))] w fun e w' => ∃ v, e = .returned v ∧ OwnV w' w.heap.size v [] ∧ Below w.heap.size w w' from by
        by_cases z : n1 + n2 + n3 = 0
        · rw [show (n1 : Int) + (n2 : Int) + (n3 : Int) = 0 by omega]
          exact (grow_none w).mono fun _ _ ⟨he, hb⟩ => ⟨_, he, OwnV.nil _ _, hb⟩
        · have := grow_some w (n1 + n2 + n3) (by omega) h20
          rw [show ((n1 + n2 + n3 : Nat) : Int) = (n1 : Int) + (n2 : Int) + (n3 : Int) by omega] at this
          exact this)
      go_wp2_with fail
      refine (unhide GR).mono ?_
      rintro e w1 ⟨v, rfl, ov, b1⟩
      have OV := hide ov
      have B1 := hide b1
      clear ov b1 GR
      go_wp2
      go_loopw [6, 8, 27] (fun x _ j wr => ∃ (k : Nat) (v : Value) (out : List Int), j = .int .i64 k ∧ v = x ∧ Hid (OwnV wr w.heap.size v out) ∧ Hid (Below w.heap.size w wr) ∧ ((k = 0 ∧ out = []) ∨ (k = 1 ∧ p1 = out) ∨ (k = 2 ∧ out = p1 ++ p2) ∨ (k = 3 ∧ out = p1 ++ (p2 ++ p3)))) (fun _ _ j _ => 3 - (intOf j).toNat)
      case atStart => exact ⟨0, v, [], rfl, rfl, OV, B1, .inl ⟨rfl, rfl⟩⟩
      case round =>
      clear OV B1
      obtain ⟨k, v, out, rfl, rfl, OV, HB, hk⟩ := hrel
      rcases hk with ⟨rfl, rfl⟩ | ⟨rfl, rfl⟩ | ⟨rfl, rfl⟩ | ⟨rfl, rfl⟩
      · have s : wr.cell? ⟨b, 0, none⟩ = some (.slice (some ⟨g1, o1, none⟩) n1 c1) := ((unhide HB).cell (p := ⟨b, 0, none⟩) hb).trans s1
        have A := hide (AtO.below (unhide A1) (unhide HB) q1)
        have bs := (unhide HB).size
        have LN := hide (show ([] : List Int).length + n1 ≤ 1048576 from by (try simp); omega)
        go_wp2_with (first | (at_builtin; refine wp_catV _ rfl _ _ rfl w.heap.size n1 v ([] : List Int) p1 g1 o1 c1 rfl rfl (unhide OV) l1 (unhide A) (unhide LN) bs ?_) | go_in)
        intro v5 w5 ov5 gr5 loc5
        have O5 := hide (show OwnV w5 w.heap.size v5 (p1) from by have := ov5; exact this)
        have B5 := hide ((unhide HB).grown gr5 bs (fun j hj => ((unhide OV).lt j hj).1))
        clear ov5 gr5 loc5 A s
        go_wp2
        go_roundw
        case rel => exact ⟨1, v5, p1, by go_num, rfl, O5, B5, .inr (.inl ⟨rfl, rfl⟩)⟩
        case measure => simp [intOf]
      · have s : wr.cell? ⟨b, 1, none⟩ = some (.slice (some ⟨g2, o2, none⟩) n2 c2) := ((unhide HB).cell (p := ⟨b, 1, none⟩) hb).trans s2
        have A := hide (AtO.below (unhide A2) (unhide HB) q2)
        have bs := (unhide HB).size
        have LN := hide (show (p1).length + n2 ≤ 1048576 from by (try simp); omega)
        go_wp2_with (first | (at_builtin; refine wp_catV _ rfl _ _ rfl w.heap.size n2 v (p1) p2 g2 o2 c2 rfl rfl (unhide OV) l2 (unhide A) (unhide LN) bs ?_) | go_in)
        intro v5 w5 ov5 gr5 loc5
        have O5 := hide (show OwnV w5 w.heap.size v5 (p1 ++ p2) from by have := ov5; exact this)
        have B5 := hide ((unhide HB).grown gr5 bs (fun j hj => ((unhide OV).lt j hj).1))
        clear ov5 gr5 loc5 A s
        go_wp2
        go_roundw
        case rel => exact ⟨2, v5, p1 ++ p2, by go_num, rfl, O5, B5, .inr (.inr (.inl ⟨rfl, rfl⟩))⟩
        case measure => simp [intOf]
      · have s : wr.cell? ⟨b, 2, none⟩ = some (.slice (some ⟨g3, o3, none⟩) n3 c3) := ((unhide HB).cell (p := ⟨b, 2, none⟩) hb).trans s3
        have A := hide (AtO.below (unhide A3) (unhide HB) q3)
        have bs := (unhide HB).size
        have LN := hide (show (p1 ++ p2).length + n3 ≤ 1048576 from by (try simp); omega)
        go_wp2_with (first | (at_builtin; refine wp_catV _ rfl _ _ rfl w.heap.size n3 v (p1 ++ p2) p3 g3 o3 c3 rfl rfl (unhide OV) l3 (unhide A) (unhide LN) bs ?_) | go_in)
        intro v5 w5 ov5 gr5 loc5
        have O5 := hide (show OwnV w5 w.heap.size v5 (p1 ++ (p2 ++ p3)) from by first | exact ov5 | (have := ov5; rw [List.append_assoc] at this; exact this))
        have B5 := hide ((unhide HB).grown gr5 bs (fun j hj => ((unhide OV).lt j hj).1))
        clear ov5 gr5 loc5 A s
        go_wp2
        go_roundw
        case rel => exact ⟨3, v5, p1 ++ (p2 ++ p3), by go_num, rfl, O5, B5, .inr (.inr (.inr ⟨rfl, rfl⟩))⟩
        case measure => simp [intOf]
      · go_wp2
        go_ret
        exact ⟨_, rfl, unhide OV, unhide HB⟩
end Go.Proofs.Yticofefdbjihiaa.ConB11
namespace Go.Proofs.Yticofefdbjihiaa.ISeal11
open Go.ChangeShapes Go.WideShapes Go.ChangeAt Go.RowKit SBytes SPut11 SPuts11 SSeal11
open ByteH (Own At)
theorem lit_four (w : World) (a b c d : Int) : AtO (w.alloc (.cells #[.int .u8 a, .int .u8 b, .int .u8 c, .int .u8 d] 89)) w.heap.size 0 [a, b, c, d] := by
  intro i hi
  have : i = 0 ∨ i = 1 ∨ i = 2 ∨ i = 3 := by simp at hi; omega
  rcases this with rfl | rfl | rfl | rfl <;> simp
theorem numB_some (n : Nat) : (numB n).length ≠ 0 := by
  unfold numB
  rw [if_neg (by omega)]
  by_cases h : 127 < ((n : Int)).toNat
  · rw [numF_more h]; simp
  · rw [numF_last h]; simp
abbrev oS0 : Oper := { dst := some 11, op := Go.Op.move (Go.Operand.tmp 0), type := 53, pos := "l11_bytes.go:78", after := #[], guard := none }
abbrev oS1 : Oper := { dst := some 12, op := Go.Op.call { callee := Go.Callee.builtin Go.Builtin.len, args := #[Go.Operand.tmp 11], argTypes := #[53] }, type := 3, pos := "l11_bytes.go:78", after := #[{ on := 0, ground := Go.Ground.data }], guard := none }
abbrev oS2 : Oper := { dst := some 13, op := Go.Op.call { callee := Go.Callee.value (Go.Operand.func 82), args := #[Go.Operand.tmp 12], argTypes := #[3] }, type := 53, pos := "l11_bytes.go:78", after := #[{ on := 1, ground := Go.Ground.data }], guard := none }
abbrev oS3 : Oper := { dst := some 14, op := Go.Op.move (Go.Operand.tmp 0), type := 53, pos := "l11_bytes.go:78", after := #[], guard := none }
abbrev oS4 : Oper := { dst := some 15, op := Go.Op.slice 89 (Go.Operand.tmp 4) none none none, type := 53, pos := "l11_bytes.go:78", after := #[], guard := none }
abbrev oS5 : Oper := { dst := some 16, op := Go.Op.buildSlice 102 3 #[(0, Go.Operand.tmp 13), (1, Go.Operand.tmp 14), (2, Go.Operand.tmp 15)], type := 102, pos := "l11_bytes.go:78", after := #[{ on := 2, ground := Go.Ground.data }, { on := 3, ground := Go.Ground.data }, { on := 4, ground := Go.Ground.data }], guard := none }
abbrev oS6 : Oper := { dst := some 17, op := Go.Op.call { callee := Go.Callee.value (Go.Operand.func 81), args := #[Go.Operand.tmp 16], argTypes := #[102] }, type := 53, pos := "l11_bytes.go:78", after := #[{ on := 5, ground := Go.Ground.data }, { on := 2, ground := Go.Ground.chain }], guard := none }
abbrev oS7 : Oper := { dst := some 2, op := Go.Op.assign (Go.Operand.tmp 17), type := 53, pos := "l11_bytes.go:78", after := #[{ on := 6, ground := Go.Ground.data }, { on := 6, ground := Go.Ground.chain }, { on := 0, ground := Go.Ground.phase }, { on := 1, ground := Go.Ground.phase }, { on := 2, ground := Go.Ground.phase }, { on := 3, ground := Go.Ground.phase }, { on := 4, ground := Go.Ground.phase }, { on := 5, ground := Go.Ground.phase }, { on := 6, ground := Go.Ground.phase }], guard := none }
abbrev oS8 : Oper := { dst := some 3, op := Go.Op.assign (Go.Operand.const (Go.Value.bool true)), type := 4, pos := "l11_bytes.go:78", after := #[{ on := 7, ground := Go.Ground.chain }, { on := 0, ground := Go.Ground.phase }, { on := 1, ground := Go.Ground.phase }, { on := 2, ground := Go.Ground.phase }, { on := 3, ground := Go.Ground.phase }, { on := 4, ground := Go.Ground.phase }, { on := 5, ground := Go.Ground.phase }, { on := 6, ground := Go.Ground.phase }, { on := 7, ground := Go.Ground.phase }], guard := none }
set_option maxRecDepth 100000 in
set_option maxHeartbeats 4000000 in
theorem iSeal (w : World) (gl cl : Nat) (xs : List Int) (h20 : xs.length ≤ 1048576) (hg : gl < w.heap.size) (hr : AtB w gl xs) :
    Calls Try.prog 49 #[.slice (some ⟨gl, 0, none⟩) xs.length cl] w fun e w' => ∃ a c, e = .returned (.tuple #[.slice a (sealB xs).length c, .bool (decide (xs.length ≤ 9000))]) ∧ VOB.Ob w' w.heap.size a (sealB xs).length c (sealB xs) ∧ Below w.heap.size w w' := by
  by_cases h0 : xs.length ≤ 9000
  case neg =>
    have e : sealB xs = [] := if_neg h0
    rw [e]
    have O0 := hide (lit0 w w.heap.size (Nat.le_refl _) rfl)
    have B0 := hide (one_more w (.cells #[] 5))
    have h1 : (9000 : Int) < xs.length := by omega
    have D := hide (show decide (xs.length ≤ 9000) = false from by simp; omega)
    rw [unhide D]
    clear e h0 hr
    go_enter Try.func49, Try.ntmps49
    go_wp2
    go_ret2
    exact ⟨_, 0, rfl, .of (unhide O0), unhide B0⟩
  have S := hide (show numB xs.length ++ xs ++ four (chkB xs) = sealB xs from (if_pos h0).symm)
  have D := hide (show decide (xs.length ≤ 9000) = true from by simp; omega)
  rw [unhide D]
  have SM := hide (ISum11.iSum w gl 0 cl xs h20 hg (.of hr))
  have R := hide hr
  have HG := hide hg
  have NE := hide (numB_some xs.length)
  have nine := numB_nine (x := xs.length) (by omega)
  have h1 : ¬ (9000 : Int) < xs.length := by omega
  clear hr D
  go_enter Try.func49, Try.ntmps49
  go_wp2_with fail
  refine (unhide SM).mono ?_
  rintro e u ⟨rfl, b1⟩
  have S1 := hide (show numB xs.length ++ xs ++ [chkB xs % 256, chkB xs / 256 % 256, chkB xs / 65536 % 256, chkB xs / 16777216 % 256] = sealB xs from unhide S)
  have us := b1.size
  have B0 := hide b1
  clear S SM b1
  generalize chkB xs % 256 = y0 at *
  generalize chkB xs / 256 % 256 = y1 at *
  generalize chkB xs / 65536 % 256 = y2 at *
  generalize chkB xs / 16777216 % 256 = y3 at *
  have R2 := hide (((unhide R).below (unhide B0) (unhide HG)).below (one_more u (.cells #[.int .u8 y0, .int .u8 y1, .int .u8 y2, .int .u8 y3] 89)) (by omega))
  clear h1
  go_wp2
  refine wp_region_held_drew (S := (fun _ => True)) (by kernel_rfl) trivial (fun hHeld => ?_)
  refine wpAnyH_take (i := 0) (oi := oS0) (v := .slice (some ⟨gl, 0, none⟩) xs.length cl) rfl (by kernel_rfl) (by kernel_rfl) (by kernel_rfl) (fun _ _ _ h => h) (Or.inl ⟨by rfl, fun w hSw => ?_⟩) hHeld ?_
  · (try dsimp only at hSw)
    unfold oS0
    go_simp
  try simp only [oS0, Act.put, List.setIfInBounds_toArray, List.set_cons_zero, List.set_cons_succ]
  refine wpAnyH_take (i := 1) (oi := oS1) (v := .int .i64 xs.length) rfl (by kernel_rfl) (by kernel_rfl) (by kernel_rfl) (fun _ _ _ h => h) (Or.inl ⟨by rfl, fun w hSw => ?_⟩) hHeld ?_
  · (try dsimp only at hSw)
    unfold oS1
    go_simp
  try simp only [oS1, Act.put, List.setIfInBounds_toArray, List.set_cons_zero, List.set_cons_succ]
  refine wpAnyH_take (i := 3) (oi := oS3) (v := .slice (some ⟨gl, 0, none⟩) xs.length cl) rfl (by kernel_rfl) (by kernel_rfl) (by kernel_rfl) (fun _ _ _ h => h) (Or.inl ⟨by rfl, fun w hSw => ?_⟩) hHeld ?_
  · (try dsimp only at hSw)
    unfold oS3
    go_simp
  try simp only [oS3, Act.put, List.setIfInBounds_toArray, List.set_cons_zero, List.set_cons_succ]
  refine wpAnyH_take (i := 4) (oi := oS4) (v := .slice (some ⟨u.heap.size, 0, none⟩) 4 4) rfl (by kernel_rfl) (by kernel_rfl) (by kernel_rfl) (fun _ _ _ h => h) (Or.inl ⟨by rfl, fun w hSw => ?_⟩) hHeld ?_
  · (try dsimp only at hSw)
    unfold oS4
    go_simp
  try simp only [oS4, Act.put, List.setIfInBounds_toArray, List.set_cons_zero, List.set_cons_succ]
  refine wpAnyH_ready (rs := [2]) (by kernel_rfl) (by simp) ?_
  refine AllReadyH.cons (o := oS2) rfl (fun K hK => ?_) AllReadyH.nil
  unfold oS2
  go_simp
  go_wp2_with fail
  refine (IPut11.iPutNum _ xs.length (by omega)).mono ?_
  rintro e u1 ⟨a1, c1, rfl, o1, bb⟩
  obtain ⟨g1, rfl, q1⟩ : ∃ g, a1 = some ⟨g, 0, none⟩ ∧ Own u1 u.heap.size g (numB xs.length).length c1 (numB xs.length) := by
    rcases o1.either with ⟨_, h, _⟩ | ⟨g, h, o⟩
    · exact absurd h (unhide NE)
    · exact ⟨g, h, o.mono (by simp [World.drew])⟩
  have B1 := hide (show Below (u.heap.size + 1) (u.alloc (.cells #[.int .u8 y0, .int .u8 y1, .int .u8 y2, .int .u8 y3] 89)) u1 from by
    have h := bb.mono (B' := u.heap.size + 1) (by simp [World.drew])
    exact ⟨h.os, h.tape, h.output, h.size, h.block⟩)
  have O1 := hide q1
  have us1 := bb.size
  rw [show (u.alloc (.cells #[.int .u8 y0, .int .u8 y1, .int .u8 y2, .int .u8 y3] 89)).drew.heap.size = u.heap.size + 1 by simp [World.drew]] at us1
  clear bb o1 q1
  go_wp2_with fail
  refine hK.out _ _ trivial (fun hHeld => ?_)
  clear hK K
  try simp only [oS2, Act.put, List.setIfInBounds_toArray, List.set_cons_zero, List.set_cons_succ]
  refine wpAnyH_ready (rs := [5]) (by kernel_rfl) (by simp) ?_
  refine AllReadyH.cons (o := oS5) rfl (fun K hK => ?_) AllReadyH.nil
  unfold oS5
  go_simp
  refine hK.out _ _ trivial (fun hHeld => ?_)
  clear hK K
  try simp only [oS5, Act.put, List.setIfInBounds_toArray, List.set_cons_zero, List.set_cons_succ]
  refine wpAnyH_ready (rs := [6]) (by kernel_rfl) (by simp) ?_
  refine AllReadyH.cons (o := oS6) rfl (fun K hK => ?_) AllReadyH.nil
  unfold oS6
  go_simp
  have A1 := hide (own_alloc (unhide O1) (.cells #[.slice (some ⟨g1, 0, none⟩) (numB xs.length).length c1, .slice (some ⟨gl, 0, none⟩) xs.length cl, .slice (some ⟨u.heap.size, 0, none⟩) 4 4] 53))
  have CB := hide (ConB11.iConcat (u1.alloc (.cells #[.slice (some ⟨g1, 0, none⟩) (numB xs.length).length c1, .slice (some ⟨gl, 0, none⟩) xs.length cl, .slice (some ⟨u.heap.size, 0, none⟩) 4 4] 53)) u1.heap.size g1 0 (numB xs.length).length c1 gl 0 xs.length cl u.heap.size 0 4 4 (numB xs.length) xs [y0, y1, y2, y3] rfl rfl rfl (by omega) (by simp) (Nat.lt_of_lt_of_le (unhide O1).lt.2 (by simp)) (by simp; omega) (by simp; omega) (AtO.of (unhide A1).at) (AtO.of (fun i hi => (((unhide R2).below (unhide B1) (by omega)).below (one_more u1 _) (by omega) i hi).1)) (ConB11.AtO.below (ConB11.AtO.below (lit_four u y0 y1 y2 y3) (unhide B1) (by omega)) (one_more u1 _) (by omega)) (by simp) (by simp) (by simp))
  go_wp2_with fail
  refine (unhide CB).mono ?_
  rintro e u2 ⟨v2, rfl, o2, b2⟩
  obtain ⟨a2, c2, rfl, q2⟩ := o2.ob
  have O2 := hide q2
  have B2 := hide b2
  clear o2 q2 b2 CB
  go_wp2_with fail
  refine hK.out _ _ trivial (fun hHeld => ?_)
  clear hK K
  try simp only [oS6, Act.put, List.setIfInBounds_toArray, List.set_cons_zero, List.set_cons_succ]
  refine wpAnyH_take (i := 7) (oi := oS7) (v := .slice a2 (numB xs.length ++ (xs ++ [y0, y1, y2, y3])).length c2) rfl (by kernel_rfl) (by kernel_rfl) (by kernel_rfl) (fun _ _ _ h => h) (Or.inl ⟨by rfl, fun w hSw => ?_⟩) hHeld ?_
  · (try dsimp only at hSw)
    unfold oS7
    go_simp
  try simp only [oS7, Act.put, List.setIfInBounds_toArray, List.set_cons_zero, List.set_cons_succ]
  refine wpAnyH_take (i := 8) (oi := oS8) (v := .bool true) rfl (by kernel_rfl) (by kernel_rfl) (by kernel_rfl) (fun _ _ _ h => h) (Or.inl ⟨by rfl, fun w hSw => ?_⟩) hHeld ?_
  · (try dsimp only at hSw)
    unfold oS8
    go_simp
  try simp only [oS8, Act.put, List.setIfInBounds_toArray, List.set_cons_zero, List.set_cons_succ]
  refine wpAnyH_done (by kernel_rfl) ?_ _
  have B9 := hide (show Below w.heap.size w u2 from (((unhide B0).alloc (unhide B0).size (.cells #[.int .u8 y0, .int .u8 y1, .int .u8 y2, .int .u8 y3] 89)).trans ((unhide B1).mono (by have := (unhide B0).size; omega))).trans (((one_more u1 _).mono (by have := (unhide B0).size; omega)).trans ((unhide B2).mono (by have := (unhide B0).size; simp; omega))))
  go_wp2
  go_ret2
  have e := unhide S1
  rw [List.append_assoc] at e
  refine ⟨a2, c2, ?_, ?_, unhide B9⟩
  · rw [← e]; rfl
  · rw [← e]; exact (unhide O2).mono (by have := (unhide B0).size; simp; omega)
end Go.Proofs.Yticofefdbjihiaa.ISeal11
namespace Go.Proofs.Yticofefdbjihiaa.ISz14
open Go.ChangeShapes Go.WideShapes Go.ChangeAt Go.RowKit Fil14 OpensF14 DiskH14 DkH14 SDk14 SOk14 IFile14
set_option maxRecDepth 100000 in
set_option maxHeartbeats 4000000 in
theorem iSizeD (w : World) (x : Dx) (hr : RdD w x) (hz : sumZ x.ps ≤ 1048576) :
    Calls Try.prog 83 #[.agg #[.int .i64 x.room, .slice x.a x.ps.length x.c]] w fun e w' => e = .returned (.int .i64 (sumZ x.ps)) ∧ Below w.heap.size w w' := by
  have W0 := hide (Wd.made hr 31)
  have h20 := hr.n
  clear hr
  go_enter Try.func83, Try.ntmps83
  go_wp2
  go_loopw [3, 9] (fun n i wr => ∃ (k : Nat) (y : Int), k ≤ x.ps.length ∧ i = .int .i64 k ∧ n = .int .i64 y ∧ 0 ≤ y ∧ y ≤ 1048576 ∧ Hid (y = sumZ (x.ps.take k)) ∧ Hid (Wd w wr x)) (fun _ i _ => x.ps.length - (intOf i).toNat)
  case atStart => exact ⟨0, 0, by omega, rfl, rfl, by omega, by omega, hide (by simp [sumZ]), W0⟩
  case round =>
    clear W0
    obtain ⟨k, y, hk, rfl, rfl, y0, y1, HY, HW⟩ := hrel
    by_cases t : k < x.ps.length
    · have kt : (k : Int) < x.ps.length := by omega
      have NX := sumZ_next t
      have LE := sumZ_le x.ps (k + 1)
      have YE := unhide HY
      obtain ⟨g, ea, lg, e0, e1, e2⟩ := cells_of (unhide HW).r t
      have lt := (unhide HW).lt
      have IX := SCom14.ixF x.c ea t
      generalize (elF x.ps k).1 = z0 at *
      generalize (elF x.ps k).2.1 = z1 at *
      generalize (elF x.ps k).2.2 = z2 at *
      have b1 : z1.size + z2.size ≤ 1048576 := by omega
      have a2 : wrap64 (y + ((z1.size : Int) + z2.size)) = y + ((z1.size : Int) + z2.size) := by rw [wrap64]; omega
      have NY := hide (show 0 ≤ y + ((z1.size : Int) + z2.size) ∧ y + ((z1.size : Int) + z2.size) ≤ 1048576 ∧ y + ((z1.size : Int) + z2.size) = sumZ (x.ps.take (k + 1)) by omega)
      clear NX LE YE HY ea
      have OB := hide (one_more wr (.cells #[.int .i64 z0, .string z1, .string z2] 69))
      go_wp2_with fail
      refine (iSizeF _ z0 z1 z2 b1).mono ?_
      rintro e w2 ⟨rfl, bb⟩
      have HW2 := hide (((unhide HW).step (unhide OB)).step bb)
      clear bb OB HW e0 e1 e2 IX
      go_wp2
      go_roundw
      case rel => exact ⟨k + 1, y + ((z1.size : Int) + z2.size), by omega, by go_num, rfl, (unhide NY).1, (unhide NY).2.1, hide (unhide NY).2.2, HW2⟩
      case measure => simp [intOf]; omega
    · have e : k = x.ps.length := by omega
      have E := hide (show y = sumZ x.ps by have := unhide HY; rw [e, List.take_length] at this; exact this)
      have kt : ¬ (k : Int) < x.ps.length := by omega
      clear HY
      subst e
      go_wp2
      go_ret
      exact ⟨congrArg (fun z => Ending.returned (.int .i64 z)) (unhide E), (unhide HW).b⟩
end Go.Proofs.Yticofefdbjihiaa.ISz14
