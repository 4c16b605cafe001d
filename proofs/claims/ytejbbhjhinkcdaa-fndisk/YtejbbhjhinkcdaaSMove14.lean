/- Disks: the specification's DiskMove. -/
import Derived.Test.YtejbbhjhinkcdaaSCom14
import Derived.Test.YtejbbhjhinkcdaaSPut14
import Derived.Deep.RegionHeld3
namespace Go.Proofs.Ytejbbhjhinkcdaa.SMove14
open Go.ChangeShapes Go.WideShapes Go.ChangeAt Go.RowKit Fil14 OpensF14 DiskH14 DkH14 SDk14 SOk14 SRd14 App14 SLess14 SCopy14 SRef14 SCom14 SPut14
set_option linter.unusedVariables false
set_option linter.unusedSimpArgs false

/-- What DiskMove answers. -/
def moveD (room : Int) (ps : List TF) (nm to : Int) : (Int × List TF) × Int := if okN to = true ∧ nm ≠ to then (if (atD room ps nm).2 = 0 then ((room, putF (lessN ps (atD room ps nm).1 ps.length) (to, (elF ps (atD room ps nm).1.toNat).2.1, (elF ps (atD room ps nm).1.toNat).2.2)), 0) else (refD (atD room ps nm).2 room ps, (atD room ps nm).2)) else (refD 1 room ps, 1)

theorem less_len (ps : List TF) (nm : Int) : ∀ n, (lessN ps nm n).length ≤ n
  | 0 => by simp [lessN]
  | n + 1 => by
    have := less_len ps nm n
    simp only [lessN]
    split <;> simp <;> omega

abbrev oM0 : Oper := { dst := some 38, op := Go.Op.load 26 (Go.Operand.tmp 3), type := 26, pos := "l14_disk.go:144", after := #[], guard := none }
abbrev oM1 : Oper := { dst := some 39, op := Go.Op.move (Go.Operand.tmp 8), type := 3, pos := "l14_disk.go:144", after := #[], guard := none }
abbrev oM2 : Oper := { dst := some 40, op := Go.Op.call { callee := Go.Callee.value (Go.Operand.func 47), args := #[Go.Operand.tmp 38, Go.Operand.tmp 39], argTypes := #[26, 3] }, type := 26, pos := "l14_disk.go:144", after := #[{ on := 0, ground := Go.Ground.data }, { on := 1, ground := Go.Ground.data }], guard := none }
abbrev oM3 : Oper := { dst := some 41, op := Go.Op.load 32 (Go.Operand.tmp 10), type := 32, pos := "l14_disk.go:144", after := #[], guard := none }
abbrev oM4 : Oper := { dst := some 42, op := Go.Op.call { callee := Go.Callee.value (Go.Operand.func 37), args := #[Go.Operand.tmp 40, Go.Operand.tmp 41], argTypes := #[26, 32] }, type := 26, pos := "l14_disk.go:144", after := #[{ on := 2, ground := Go.Ground.data }, { on := 3, ground := Go.Ground.data }, { on := 2, ground := Go.Ground.chain }], guard := none }
abbrev oM5 : Oper := { dst := none, op := Go.Op.store 26 (Go.Operand.tmp 6) (Go.Operand.tmp 42), type := 0, pos := "l14_disk.go:144", after := #[{ on := 4, ground := Go.Ground.data }, { on := 4, ground := Go.Ground.chain }, { on := 0, ground := Go.Ground.phase }, { on := 1, ground := Go.Ground.phase }, { on := 2, ground := Go.Ground.phase }, { on := 3, ground := Go.Ground.phase }, { on := 4, ground := Go.Ground.phase }], guard := none }
abbrev oM6 : Oper := { dst := some 7, op := Go.Op.assign (Go.Operand.const (Go.Value.int Go.IntKind.i64 0)), type := 3, pos := "l14_disk.go:144", after := #[{ on := 5, ground := Go.Ground.chain }, { on := 0, ground := Go.Ground.phase }, { on := 1, ground := Go.Ground.phase }, { on := 2, ground := Go.Ground.phase }, { on := 3, ground := Go.Ground.phase }, { on := 4, ground := Go.Ground.phase }, { on := 5, ground := Go.Ground.phase }], guard := none }

set_option maxRecDepth 100000 in
set_option maxHeartbeats 4000000 in
theorem sDiskMove (w : World) (x : Dx) (nm to : Int) (hr : RdD w x) (hz : sumZ x.ps ≤ 1048576) :
    Calls Try.prog 43 #[.agg #[.int .i64 x.room, .slice x.a x.ps.length x.c], .int .i64 nm, .int .i64 to] w (ToldD (moveD x.room x.ps nm to) w) := by
  have G0 := hide (begunD hr)
  have s2 : ((w.alloc (.cells #[.int .i64 x.room, .slice x.a x.ps.length x.c] 26)).alloc (.cells #[.int .i64 0, .slice none 0 0] 26)).heap.size = w.heap.size + 2 := by simp
  have AT := hide (sAt _ x nm (unhide G0).1.r hz)
  have AI := hide (at_in (room := x.room) (ps := x.ps) (nm := nm))
  have NM := hide (fun u => sName u to)
  have RE := hide (show moveD x.room x.ps nm to = if okN to = true ∧ nm ≠ to then (if (atD x.room x.ps nm).2 = 0 then ((x.room, putF (lessN x.ps (atD x.room x.ps nm).1 x.ps.length) (to, (elF x.ps (atD x.room x.ps nm).1.toNat).2.1, (elF x.ps (atD x.room x.ps nm).1.toNat).2.2)), 0) else (refD (atD x.room x.ps nm).2 x.room x.ps, (atD x.room x.ps nm).2)) else (refD 1 x.room x.ps, 1) from rfl)
  generalize moveD x.room x.ps nm to = rr at *
  generalize atD x.room x.ps nm = at' at *
  obtain ⟨k0, c⟩ := at'
  generalize okN to = bt at *
  clear hr
  go_enter Try.func43, Try.ntmps43
  go_wp2_with fail
  generalize (w.alloc (.cells #[.int .i64 x.room, .slice x.a x.ps.length x.c] 26)).alloc (.cells #[.int .i64 0, .slice none 0 0] 26) = W at *
  refine (unhide AT).mono ?_
  rintro e u0 ⟨rfl, b1⟩
  have W1 := hide ((unhide G0).1.step b1)
  have R1 := hide ((unhide G0).2.below b1 (by omega))
  have us := b1.size
  clear b1 AT G0
  have c0 := (unhide W1).c0
  have c1 := (unhide W1).c1
  have lt := (unhide W1).lt
  go_wp2_with fail
  refine ((unhide NM) u0).mono ?_
  rintro e u ⟨rfl, rfl⟩
  clear NM
  cases bt with
  | false =>
    have E := hide (show rr = (refD 1 x.room x.ps, 1) by rw [unhide RE, if_neg (fun h => by simp at h)])
    clear RE AI
    go_wp2_with fail
    refine (sRefused u x (1) (unhide W1).r).mono ?_
    rintro e u2 ⟨y, hy, rfl, oy, b2⟩
    have R2 := hide ((unhide R1).below b2 (unhide R1).lt.2)
    have EN := hide (endedD ((unhide W1).b.trans (b2.mono (unhide W1).b.size)) (unhide R2) oy (by omega))
    have HY := hide hy
    have f0 := (unhide R2).free 0
    have f1 := (unhide R2).free 1
    have r0 := (unhide R2).c0
    have r1 := (unhide R2).c1
    clear b2 oy hy c0 c1 lt W1 R1
    go_wp2
    refine bodyPost_ret (v := .tuple #[.agg #[.int .i64 y.room, .slice y.a y.ps.length y.c], .int .i64 (1)]) (by simp [results, Try.results43, go_sem, r0, r1]) rfl ?_
    rw [unhide E]
    exact ⟨y, unhide HY, rfl, (unhide EN).1, (unhide EN).2⟩
  | true =>
    by_cases qt : nm = to
    · have E := hide (show rr = (refD 1 x.room x.ps, 1) by rw [unhide RE, if_neg (fun h => h.2 qt)])
      have qtb : (nm == to) = true := by simpa using qt
      clear RE AI qt
      go_wp2_with fail
      refine (sRefused u x (1) (unhide W1).r).mono ?_
      rintro e u2 ⟨y, hy, rfl, oy, b2⟩
      have R2 := hide ((unhide R1).below b2 (unhide R1).lt.2)
      have EN := hide (endedD ((unhide W1).b.trans (b2.mono (unhide W1).b.size)) (unhide R2) oy (by omega))
      have HY := hide hy
      have f0 := (unhide R2).free 0
      have f1 := (unhide R2).free 1
      have r0 := (unhide R2).c0
      have r1 := (unhide R2).c1
      clear b2 oy hy c0 c1 lt W1 R1
      go_wp2
      refine bodyPost_ret (v := .tuple #[.agg #[.int .i64 y.room, .slice y.a y.ps.length y.c], .int .i64 (1)]) (by simp [results, Try.results43, go_sem, r0, r1]) rfl ?_
      rw [unhide E]
      exact ⟨y, unhide HY, rfl, (unhide EN).1, (unhide EN).2⟩
    have qtb : (nm == to) = false := by simpa using qt
    have RE2 := hide (show rr = if c = 0 then ((x.room, putF (lessN x.ps k0 x.ps.length) (to, (elF x.ps k0.toNat).2.1, (elF x.ps k0.toNat).2.2)), 0) else (refD c x.room x.ps, c) by rw [unhide RE, if_pos ⟨rfl, qt⟩])
    clear RE qt
    by_cases q : c = 0
    case neg =>
      have E := hide (show rr = (refD c x.room x.ps, c) by rw [unhide RE2, if_neg q])
      have qb : (c != 0) = true := by simpa using q
      clear RE2 AI q
      go_wp2_with fail
      refine (sRefused u x (c) (unhide W1).r).mono ?_
      rintro e u2 ⟨y, hy, rfl, oy, b2⟩
      have R2 := hide ((unhide R1).below b2 (unhide R1).lt.2)
      have EN := hide (endedD ((unhide W1).b.trans (b2.mono (unhide W1).b.size)) (unhide R2) oy (by omega))
      have HY := hide hy
      have f0 := (unhide R2).free 0
      have f1 := (unhide R2).free 1
      have r0 := (unhide R2).c0
      have r1 := (unhide R2).c1
      clear b2 oy hy c0 c1 lt W1 R1
      go_wp2
      refine bodyPost_ret (v := .tuple #[.agg #[.int .i64 y.room, .slice y.a y.ps.length y.c], .int .i64 (c)]) (by simp [results, Try.results43, go_sem, r0, r1]) rfl ?_
      rw [unhide E]
      exact ⟨y, unhide HY, rfl, (unhide EN).1, (unhide EN).2⟩
    subst q
    obtain ⟨ok, okn, k, rfl, kl, en⟩ := (unhide AI) rfl
    have E := hide (show rr = ((x.room, putF (lessN x.ps k x.ps.length) (to, (elF x.ps k).2.1, (elF x.ps k).2.2)), 0) by rw [unhide RE2, if_pos rfl]; rfl)
    have h22 := ok.2.1
    have LL := hide (less_len x.ps k x.ps.length)
    have kt : (k : Int) < x.ps.length := by omega
    obtain ⟨g, ea, lg, d0, d1, d2⟩ := cells_of (unhide W1).r kl
    have ix := ixF x.c ea kl
    clear RE2 AI ok okn en ea
    generalize (elF x.ps k).1 = z0 at *
    generalize (elF x.ps k).2.1 = z1 at *
    generalize (elF x.ps k).2.2 = z2 at *
    obtain ⟨u3, hu3⟩ : ∃ u3, Hid (u3 = u.alloc (.cells #[.int .i64 to, .string z1, .string z2] 32)) := ⟨_, rfl⟩
    have W3 := hide (show Wd w u3 x by rw [unhide hu3]; exact (unhide W1).step (one_more _ _))
    have R3 := hide (show Bc u3 w.heap.size (w.heap.size + 1) (.int .i64 0) (.slice none 0 0) by rw [unhide hu3]; exact (unhide R1).below (one_more _ _) (unhide R1).lt.2)
    have fb : u3.cell? ⟨u.heap.size, 0, none⟩ = some (.int .i64 to) ∧ u3.cell? ⟨u.heap.size, 1, none⟩ = some (.string z1) ∧ u3.cell? ⟨u.heap.size, 2, none⟩ = some (.string z2) := by rw [unhide hu3]; simp
    have s3 : u3.heap.size = u.heap.size + 1 := by rw [unhide hu3]; simp
    go_wp2_with fail
    rw [← unhide hu3]
    clear c0 c1 lt W1 R1 d0 d1 d2 ix hu3
    obtain ⟨b0, b1, b2⟩ := fb
    have c0 := (unhide W3).c0
    have c1 := (unhide W3).c1
    have K0 : u3.cell? ⟨w.heap.size, 0, none⟩ = some (.int .i64 x.room) ∧ u3.cell? ⟨w.heap.size, 1, none⟩ = some (.slice x.a x.ps.length x.c) ∧ u3.cell? ⟨u.heap.size, 0, none⟩ = some (.int .i64 to) ∧ u3.cell? ⟨u.heap.size, 1, none⟩ = some (.string z1) ∧ u3.cell? ⟨u.heap.size, 2, none⟩ = some (.string z2) := ⟨c0, c1, b0, b1, b2⟩
    refine wp_region_held_drew (S := (fun w' => w'.cell? ⟨w.heap.size, 0, none⟩ = some (.int .i64 x.room) ∧ w'.cell? ⟨w.heap.size, 1, none⟩ = some (.slice x.a x.ps.length x.c) ∧ w'.cell? ⟨u.heap.size, 0, none⟩ = some (.int .i64 to) ∧ w'.cell? ⟨u.heap.size, 1, none⟩ = some (.string z1) ∧ w'.cell? ⟨u.heap.size, 2, none⟩ = some (.string z2))) (by kernel_rfl) K0 (fun hHeld => ?_)
    refine wpAnyH_take (i := 0) (oi := oM0) (v := .agg #[.int .i64 x.room, .slice x.a x.ps.length x.c]) rfl (by kernel_rfl) (by kernel_rfl) (by kernel_rfl) (fun _ _ _ h => h) (Or.inl ⟨by rfl, fun w hSw => ?_⟩) hHeld ?_
    · (try dsimp only at hSw)
      unfold oM0
      go_simp
    try simp only [oM0, Act.put, List.setIfInBounds_toArray, List.set_cons_zero, List.set_cons_succ]
    refine wpAnyH_take (i := 1) (oi := oM1) (v := .int .i64 k) rfl (by kernel_rfl) (by kernel_rfl) (by kernel_rfl) (fun _ _ _ h => h) (Or.inl ⟨by rfl, fun w hSw => ?_⟩) hHeld ?_
    · (try dsimp only at hSw)
      unfold oM1
      go_simp
    try simp only [oM1, Act.put, List.setIfInBounds_toArray, List.set_cons_zero, List.set_cons_succ]
    refine wpAnyH_take (i := 3) (oi := oM3) (v := .agg #[.int .i64 to, .string z1, .string z2]) rfl (by kernel_rfl) (by kernel_rfl) (by kernel_rfl) (fun _ _ _ h => h) (Or.inl ⟨by rfl, fun w hSw => ?_⟩) hHeld ?_
    · (try dsimp only at hSw)
      unfold oM3
      go_simp
    try simp only [oM3, Act.put, List.setIfInBounds_toArray, List.set_cons_zero, List.set_cons_succ]
    refine wpAnyH_ready (rs := [2]) (by kernel_rfl) (by simp) ?_
    refine AllReadyH.cons (o := oM2) rfl (fun K hK => ?_) AllReadyH.nil
    unfold oM2
    go_simp
    go_wp2_with fail
    refine (sLess u3.drew x k (unhide W3.drew).r).mono ?_
    rintro e v1 ⟨y, yr, yp, rfl, oy, bb⟩
    have bb1 : Below u3.heap.size u3 v1 := ⟨bb.os, bb.tape, bb.output, bb.size, bb.block⟩
    have W4 := hide ((unhide W3).step bb1)
    have R4 := hide ((unhide R3).below bb1 (unhide R3).lt.2)
    have O4 := hide oy
    have HY1 := hide (And.intro yr yp)
    have K1 : v1.cell? ⟨w.heap.size, 0, none⟩ = some (.int .i64 x.room) ∧ v1.cell? ⟨w.heap.size, 1, none⟩ = some (.slice x.a x.ps.length x.c) ∧ v1.cell? ⟨u.heap.size, 0, none⟩ = some (.int .i64 to) ∧ v1.cell? ⟨u.heap.size, 1, none⟩ = some (.string z1) ∧ v1.cell? ⟨u.heap.size, 2, none⟩ = some (.string z2) := ⟨(unhide W4).c0, (unhide W4).c1, (bb1.cell (p := ⟨u.heap.size, 0, none⟩) (show u.heap.size < u3.heap.size by omega)).trans b0, (bb1.cell (p := ⟨u.heap.size, 1, none⟩) (show u.heap.size < u3.heap.size by omega)).trans b1, (bb1.cell (p := ⟨u.heap.size, 2, none⟩) (show u.heap.size < u3.heap.size by omega)).trans b2⟩
    have vs := bb1.size
    clear bb bb1 oy yr yp
    go_wp2_with fail
    refine hK.out _ _ K1 (fun hHeld => ?_)
    clear hK K
    try simp only [oM2, Act.put, List.setIfInBounds_toArray, List.set_cons_zero, List.set_cons_succ]
    refine wpAnyH_ready (rs := [4]) (by kernel_rfl) (by simp) ?_
    refine AllReadyH.cons (o := oM4) rfl (fun K hK => ?_) AllReadyH.nil
    unfold oM4
    go_simp
    go_wp2_with fail
    refine (sPut v1 y to z1 z2 (OwD.rd (unhide O4) (by rw [(unhide HY1).2]; have := unhide LL; omega)) (by rw [(unhide HY1).2]; have := unhide LL; omega)).mono ?_
    rintro e v2 ⟨y2, yr2, yp2, rfl, oy2, bb2⟩
    have W5 := hide ((unhide W4).step bb2)
    have R5 := hide ((unhide R4).below bb2 (unhide R4).lt.2)
    have vs2 := bb2.size
    have K2 : v2.cell? ⟨w.heap.size, 0, none⟩ = some (.int .i64 x.room) ∧ v2.cell? ⟨w.heap.size, 1, none⟩ = some (.slice x.a x.ps.length x.c) ∧ v2.cell? ⟨u.heap.size, 0, none⟩ = some (.int .i64 to) ∧ v2.cell? ⟨u.heap.size, 1, none⟩ = some (.string z1) ∧ v2.cell? ⟨u.heap.size, 2, none⟩ = some (.string z2) := ⟨(unhide W5).c0, (unhide W5).c1, (bb2.cell (p := ⟨u.heap.size, 0, none⟩) (show u.heap.size < v1.heap.size by omega)).trans K1.2.2.1, (bb2.cell (p := ⟨u.heap.size, 1, none⟩) (show u.heap.size < v1.heap.size by omega)).trans K1.2.2.2.1, (bb2.cell (p := ⟨u.heap.size, 2, none⟩) (show u.heap.size < v1.heap.size by omega)).trans K1.2.2.2.2⟩
    have EN := hide (endedD (unhide W5).b (unhide R5) oy2 (by have := (unhide W4).lt; omega))
    have HY2 := hide (show (y2.room, y2.ps) = (x.room, putF (lessN x.ps k x.ps.length) (to, z1, z2)) by rw [yr2, yp2, (unhide HY1).1, (unhide HY1).2])
    have f0 := (unhide R5).free 0
    have f1 := (unhide R5).free 1
    have r0 := (unhide R5).c0
    have r1 := (unhide R5).c1
    have wl := (unhide W5).lt
    have st := grow_grow ((unhide R5).set0 (.int .i64 y2.room)).2 (bc_set1 ((unhide R5).set0 (.int .i64 y2.room)).1 (.slice y2.a y2.ps.length y2.c)).2
    have K3 : ((v2.setCell ⟨w.heap.size + 1, 0, none⟩ (.int .i64 y2.room)).setCell ⟨w.heap.size + 1, 1, none⟩ (.slice y2.a y2.ps.length y2.c)).cell? ⟨w.heap.size, 0, none⟩ = some (.int .i64 x.room) ∧ ((v2.setCell ⟨w.heap.size + 1, 0, none⟩ (.int .i64 y2.room)).setCell ⟨w.heap.size + 1, 1, none⟩ (.slice y2.a y2.ps.length y2.c)).cell? ⟨w.heap.size, 1, none⟩ = some (.slice x.a x.ps.length x.c) ∧ ((v2.setCell ⟨w.heap.size + 1, 0, none⟩ (.int .i64 y2.room)).setCell ⟨w.heap.size + 1, 1, none⟩ (.slice y2.a y2.ps.length y2.c)).cell? ⟨u.heap.size, 0, none⟩ = some (.int .i64 to) ∧ ((v2.setCell ⟨w.heap.size + 1, 0, none⟩ (.int .i64 y2.room)).setCell ⟨w.heap.size + 1, 1, none⟩ (.slice y2.a y2.ps.length y2.c)).cell? ⟨u.heap.size, 1, none⟩ = some (.string z1) ∧ ((v2.setCell ⟨w.heap.size + 1, 0, none⟩ (.int .i64 y2.room)).setCell ⟨w.heap.size + 1, 1, none⟩ (.slice y2.a y2.ps.length y2.c)).cell? ⟨u.heap.size, 2, none⟩ = some (.string z2) := ⟨(kcell st 0 wl (by omega)).trans K2.1, (kcell st 1 wl (by omega)).trans K2.2.1, (kcell st 0 (g := u.heap.size) (by omega) (by omega)).trans K2.2.2.1, (kcell st 1 (g := u.heap.size) (by omega) (by omega)).trans K2.2.2.2.1, (kcell st 2 (g := u.heap.size) (by omega) (by omega)).trans K2.2.2.2.2⟩
    clear bb2 oy2 yr2 yp2
    go_wp2_with fail
    refine hK.out _ _ K2 (fun hHeld => ?_)
    clear hK K
    try simp only [oM4, Act.put, List.setIfInBounds_toArray, List.set_cons_zero, List.set_cons_succ]
    refine wpAnyH_ready (rs := [5]) (by kernel_rfl) (by simp) ?_
    refine AllReadyH.cons (o := oM5) rfl (fun K hK => ?_) AllReadyH.nil
    unfold oM5
    go_simp
    refine hK.out _ _ K3 (fun hHeld => ?_)
    clear hK K
    try simp only [oM5, Act.put, List.setIfInBounds_toArray, List.set_cons_zero, List.set_cons_succ]
    refine wpAnyH_take (i := 6) (oi := oM6) (v := .int .i64 0) rfl (by kernel_rfl) (by kernel_rfl) (by kernel_rfl) (fun _ _ _ h => h) (Or.inl ⟨by rfl, fun w hSw => ?_⟩) hHeld ?_
    · (try dsimp only at hSw)
      unfold oM6
      go_simp
    try simp only [oM6, Act.put, List.setIfInBounds_toArray, List.set_cons_zero, List.set_cons_succ]
    refine wpAnyH_done (by kernel_rfl) ?_ _
    clear K0 K1 K2 K3 st
    go_wp2
    refine bodyPost_ret (v := .tuple #[.agg #[.int .i64 y2.room, .slice y2.a y2.ps.length y2.c], .int .i64 0]) (by simp [results, Try.results43, go_sem, r0, r1]) rfl ?_
    rw [unhide E]
    exact ⟨y2, unhide HY2, rfl, (unhide EN).1, (unhide EN).2⟩

end Go.Proofs.Ytejbbhjhinkcdaa.SMove14
