/- Disks: the specification's DiskAppend. -/
import Derived.Test.YtejbbhjhinkcdaaSCom14
import Derived.Test.YtejbbhjhinkcdaaSPut14
import Derived.Deep.RegionHeld3
namespace Go.Proofs.Ytejbbhjhinkcdaa.SAppend14
open Go.ChangeShapes Go.WideShapes Go.ChangeAt Go.RowKit Fil14 OpensF14 DiskH14 DkH14 SDk14 SOk14 SRd14 App14 SLess14 SCopy14 SRef14 SCom14 SPut14
open DkH14 (row_step)
set_option linter.unusedVariables false
set_option linter.unusedSimpArgs false

/-- The file with a text behind what it has, or a new one. -/
def appF (ps : List TF) (nm : Int) (s : ByteArray) : TF := if 0 ≤ findF ps nm then ((elF ps (findF ps nm).toNat).1, (elF ps (findF ps nm).toNat).2.1, (elF ps (findF ps nm).toNat).2.2 ++ s) else (nm, ⟨#[]⟩, s)
/-- What DiskAppend answers. -/
noncomputable def appendD (room : Int) (ps : List TF) (nm : Int) (s : ByteArray) : (Int × List TF) × Int := @ite _ (OkD room ps ∧ okN nm = true) (Classical.propDecidable _) (if room - sumZ ps < s.size then ((room, ps), 3) else ((room, putF ps (appF ps nm s)), 0)) ((0, []), 1)

abbrev oD0 : Oper := { dst := some 21, op := Go.Op.move (Go.Operand.tmp 2), type := 9, pos := "l14_disk.go:82", after := #[], guard := none }
abbrev oD1 : Oper := { dst := some 22, op := Go.Op.call { callee := Go.Callee.builtin Go.Builtin.len, args := #[Go.Operand.tmp 21], argTypes := #[9] }, type := 3, pos := "l14_disk.go:82", after := #[{ on := 0, ground := Go.Ground.data }], guard := none }
abbrev oD2 : Oper := { dst := some 23, op := Go.Op.fieldAddr 26 (Go.Operand.tmp 3) 0, type := 0, pos := "l14_disk.go:82", after := #[], guard := none }
abbrev oD3 : Oper := { dst := some 24, op := Go.Op.load 3 (Go.Operand.tmp 23), type := 3, pos := "l14_disk.go:82", after := #[{ on := 2, ground := Go.Ground.data }], guard := none }
abbrev oD4 : Oper := { dst := some 25, op := Go.Op.load 26 (Go.Operand.tmp 3), type := 26, pos := "l14_disk.go:82", after := #[], guard := none }
abbrev oD5 : Oper := { dst := some 26, op := Go.Op.call { callee := Go.Callee.value (Go.Operand.func 24), args := #[Go.Operand.tmp 25], argTypes := #[26] }, type := 3, pos := "l14_disk.go:82", after := #[{ on := 4, ground := Go.Ground.data }], guard := none }
abbrev oD6 : Oper := { dst := some 27, op := Go.Op.binOp Go.BinOp.sub 3 (Go.Operand.tmp 24) (Go.Operand.tmp 26) 3, type := 3, pos := "l14_disk.go:82", after := #[{ on := 3, ground := Go.Ground.data }, { on := 5, ground := Go.Ground.data }], guard := none }
abbrev oD7 : Oper := { dst := some 28, op := Go.Op.binOp Go.BinOp.gtr 3 (Go.Operand.tmp 22) (Go.Operand.tmp 27) 3, type := 4, pos := "l14_disk.go:82", after := #[{ on := 1, ground := Go.Ground.data }, { on := 6, ground := Go.Ground.data }], guard := none }
abbrev oD8 : Oper := { dst := some 20, op := Go.Op.assign (Go.Operand.tmp 28), type := 4, pos := "l14_disk.go:82", after := #[{ on := 7, ground := Go.Ground.data }, { on := 5, ground := Go.Ground.chain }], guard := none }

set_option maxRecDepth 100000 in
set_option maxHeartbeats 4000000 in
theorem sDiskAppend (w : World) (x : Dx) (nm : Int) (s : ByteArray) (hr : RdD w x) (hz : sumZ x.ps ≤ 1048576) (hs : s.size ≤ 9223372036854775807) :
    Calls Try.prog 14 #[.agg #[.int .i64 x.room, .slice x.a x.ps.length x.c], .int .i64 nm, .string s] w (ToldD (appendD x.room x.ps nm s) w) := by
  have HR := hide hr
  have G0 := hide (begunD hr)
  have s2 : ((w.alloc (.cells #[.int .i64 x.room, .slice x.a x.ps.length x.c] 26)).alloc (.cells #[.int .i64 0, .slice none 0 0] 26)).heap.size = w.heap.size + 2 := by simp
  have OK0 := hide (sDiskOk _ x (unhide G0).1.r hz)
  have NM := hide (fun u => sName u nm)
  have RE := hide (show appendD x.room x.ps nm s = @ite _ (OkD x.room x.ps ∧ okN nm = true) (Classical.propDecidable _) (if x.room - sumZ x.ps < s.size then ((x.room, x.ps), 3) else ((x.room, putF x.ps (appF x.ps nm s)), 0)) ((0, []), 1) from rfl)
  generalize appendD x.room x.ps nm s = rr at *
  clear hr
  by_cases ok : OkD x.room x.ps
  case neg =>
    have E := hide (show rr = ((0, []), 1) by rw [unhide RE, if_neg (fun h => ok h.1)])
    have OK := hide (show Calls Try.prog 8 #[.agg #[.int .i64 x.room, .slice x.a x.ps.length x.c]] _ fun e w' => e = .returned (.bool false) ∧ Below _ _ w' by have := unhide OK0; rw [decide_eq_false ok] at this; exact this)
    clear OK0 ok RE
    go_enter Try.func14, Try.ntmps14
    go_wp2_with fail
    refine (unhide OK).mono ?_
    rintro e u ⟨rfl, b1⟩
    have R2 := hide ((unhide G0).2.below b1 (by omega))
    have EN := hide (endedD (y := ⟨0, none, 0, []⟩) (base0 := w.heap.size + 2) (((unhide G0).1.step b1).b) (unhide R2) ⟨rfl, .inl ⟨rfl, rfl⟩⟩ (by omega))
    have f0 := (unhide R2).free 0
    have f1 := (unhide R2).free 1
    have r0 := (unhide R2).c0
    have r1 := (unhide R2).c1
    clear b1
    go_wp2
    refine bodyPost_ret (v := .tuple #[.agg #[.int .i64 0, .slice none 0 0], .int .i64 1]) (by simp [results, Try.results14, go_sem, r0, r1]) rfl ?_
    rw [unhide E]
    exact ⟨⟨0, none, 0, []⟩, rfl, rfl, (unhide EN).1, (unhide EN).2⟩
  have OK := hide (show Calls Try.prog 8 #[.agg #[.int .i64 x.room, .slice x.a x.ps.length x.c]] _ fun e w' => e = .returned (.bool true) ∧ Below _ _ w' by have := unhide OK0; rw [decide_eq_true ok] at this; exact this)
  clear OK0
  have OKH := hide ok
  cases okn : okN nm with
  | false =>
    have E := hide (show rr = ((0, []), 1) by rw [unhide RE, if_neg (fun h => by rw [okn] at h; simp at h)])
    rw [okn] at NM
    clear RE ok
    go_enter Try.func14, Try.ntmps14
    go_wp2_with fail
    refine (unhide OK).mono ?_
    rintro e u0 ⟨rfl, b1⟩
    have R2 := hide ((unhide G0).2.below b1 (by omega))
    have EN := hide (endedD (y := ⟨0, none, 0, []⟩) (base0 := w.heap.size + 2) (((unhide G0).1.step b1).b) (unhide R2) ⟨rfl, .inl ⟨rfl, rfl⟩⟩ (by omega))
    clear b1
    go_wp2_with fail
    refine ((unhide NM) u0).mono ?_
    rintro e u ⟨rfl, rfl⟩
    have f0 := (unhide R2).free 0
    have f1 := (unhide R2).free 1
    have r0 := (unhide R2).c0
    have r1 := (unhide R2).c1
    go_wp2
    refine bodyPost_ret (v := .tuple #[.agg #[.int .i64 0, .slice none 0 0], .int .i64 1]) (by simp [results, Try.results14, go_sem, r0, r1]) rfl ?_
    rw [unhide E]
    exact ⟨⟨0, none, 0, []⟩, rfl, rfl, (unhide EN).1, (unhide EN).2⟩
  | true =>
    rw [okn] at NM
    obtain ⟨b, hb⟩ : ∃ b, decide (x.room - (sumZ x.ps : Int) < (s.size : Int)) = b := ⟨_, rfl⟩
    have HB := hide hb
    have z0 := ok.1
    have z1 := ok.2.2.1
    have wr1 : wrap64 (x.room - (sumZ x.ps : Int)) = x.room - (sumZ x.ps : Int) := by rw [wrap64]; omega
    have wr2 : IntKind.i64.wrap (x.room - (sumZ x.ps : Int)) = x.room - (sumZ x.ps : Int) := by rw [IntKind.wrap_i64]; omega
    go_enter Try.func14, Try.ntmps14
    go_wp2_with fail
    generalize (w.alloc (.cells #[.int .i64 x.room, .slice x.a x.ps.length x.c] 26)).alloc (.cells #[.int .i64 0, .slice none 0 0] 26) = W at *
    refine (unhide OK).mono ?_
    rintro e u0 ⟨rfl, b1⟩
    have W1 := hide ((unhide G0).1.step b1)
    have R1 := hide ((unhide G0).2.below b1 (by omega))
    have us := b1.size
    clear b1 OK G0
    go_wp2_with fail
    refine ((unhide NM) u0).mono ?_
    rintro e u ⟨rfl, rfl⟩
    clear NM
    have c0 := (unhide W1).c0
    have c1 := (unhide W1).c1
    have K0 : u.cell? ⟨w.heap.size, 0, none⟩ = some (.int .i64 x.room) ∧ u.cell? ⟨w.heap.size, 1, none⟩ = some (.slice x.a x.ps.length x.c) := ⟨c0, c1⟩
    go_wp2_with fail
    refine wp_region_held_drew (S := (fun w' => w'.cell? ⟨w.heap.size, 0, none⟩ = some (.int .i64 x.room) ∧ w'.cell? ⟨w.heap.size, 1, none⟩ = some (.slice x.a x.ps.length x.c))) (by kernel_rfl) K0 (fun hHeld => ?_)
    refine wpAnyH_take (i := 0) (oi := oD0) (v := .string s) rfl (by kernel_rfl) (by kernel_rfl) (by kernel_rfl) (fun _ _ _ h => h) (Or.inl ⟨by rfl, fun w hSw => ?_⟩) hHeld ?_
    · (try dsimp only at hSw)
      unfold oD0
      go_simp
    try simp only [oD0, Act.put, List.setIfInBounds_toArray, List.set_cons_zero, List.set_cons_succ]
    refine wpAnyH_take (i := 1) (oi := oD1) (v := .int .i64 s.size) rfl (by kernel_rfl) (by kernel_rfl) (by kernel_rfl) (fun _ _ _ h => h) (Or.inl ⟨by rfl, fun w hSw => ?_⟩) hHeld ?_
    · (try dsimp only at hSw)
      unfold oD1
      go_simp
    try simp only [oD1, Act.put, List.setIfInBounds_toArray, List.set_cons_zero, List.set_cons_succ]
    refine wpAnyH_take (i := 2) (oi := oD2) (v := .pointer (some ⟨w.heap.size, 0, none⟩)) rfl (by kernel_rfl) (by kernel_rfl) (by kernel_rfl) (fun _ _ _ h => h) (Or.inl ⟨by rfl, fun w hSw => ?_⟩) hHeld ?_
    · (try dsimp only at hSw)
      unfold oD2
      go_simp
    try simp only [oD2, Act.put, List.setIfInBounds_toArray, List.set_cons_zero, List.set_cons_succ]
    refine wpAnyH_take (i := 3) (oi := oD3) (v := .int .i64 x.room) rfl (by kernel_rfl) (by kernel_rfl) (by kernel_rfl) (fun _ _ _ h => h) (Or.inl ⟨by rfl, fun w hSw => ?_⟩) hHeld ?_
    · (try dsimp only at hSw)
      unfold oD3
      go_simp
    try simp only [oD3, Act.put, List.setIfInBounds_toArray, List.set_cons_zero, List.set_cons_succ]
    refine wpAnyH_take (i := 4) (oi := oD4) (v := .agg #[.int .i64 x.room, .slice x.a x.ps.length x.c]) rfl (by kernel_rfl) (by kernel_rfl) (by kernel_rfl) (fun _ _ _ h => h) (Or.inl ⟨by rfl, fun w hSw => ?_⟩) hHeld ?_
    · (try dsimp only at hSw)
      unfold oD4
      go_simp
    try simp only [oD4, Act.put, List.setIfInBounds_toArray, List.set_cons_zero, List.set_cons_succ]
    refine wpAnyH_ready (rs := [5]) (by kernel_rfl) (by simp) ?_
    refine AllReadyH.cons (o := oD5) rfl (fun K hK => ?_) AllReadyH.nil
    unfold oD5
    go_simp
    go_wp2_with fail
    refine (sSize u.drew x (unhide W1).drew.r hz).mono ?_
    rintro e v ⟨rfl, bb⟩
    have bb1 : Below u.heap.size u v := ⟨bb.os, bb.tape, bb.output, bb.size, bb.block⟩
    have W4 := hide ((unhide W1).step bb1)
    have R4 := hide ((unhide R1).below bb1 (unhide R1).lt.2)
    have K1 : v.cell? ⟨w.heap.size, 0, none⟩ = some (.int .i64 x.room) ∧ v.cell? ⟨w.heap.size, 1, none⟩ = some (.slice x.a x.ps.length x.c) := ⟨(unhide W4).c0, (unhide W4).c1⟩
    have vs := bb1.size
    clear bb bb1
    go_wp2_with fail
    refine hK.out _ _ K1 (fun hHeld => ?_)
    clear hK K
    try simp only [oD5, Act.put, List.setIfInBounds_toArray, List.set_cons_zero, List.set_cons_succ]
    refine wpAnyH_take (i := 6) (oi := oD6) (v := .int .i64 (x.room - sumZ x.ps)) rfl (by kernel_rfl) (by kernel_rfl) (by kernel_rfl) (fun _ _ _ h => h) (Or.inl ⟨by rfl, fun w hSw => ?_⟩) hHeld ?_
    · (try dsimp only at hSw)
      unfold oD6
      go_simp
    try simp only [oD6, Act.put, List.setIfInBounds_toArray, List.set_cons_zero, List.set_cons_succ]
    refine wpAnyH_take (i := 7) (oi := oD7) (v := .bool b) rfl (by kernel_rfl) (by kernel_rfl) (by kernel_rfl) (fun _ _ _ h => h) (Or.inl ⟨by rfl, fun w hSw => ?_⟩) hHeld ?_
    · (try dsimp only at hSw)
      unfold oD7
      go_simp
    try simp only [oD7, Act.put, List.setIfInBounds_toArray, List.set_cons_zero, List.set_cons_succ]
    refine wpAnyH_take (i := 8) (oi := oD8) (v := .bool b) rfl (by kernel_rfl) (by kernel_rfl) (by kernel_rfl) (fun _ _ _ h => h) (Or.inl ⟨by rfl, fun w hSw => ?_⟩) hHeld ?_
    · (try dsimp only at hSw)
      unfold oD8
      go_simp
    try simp only [oD8, Act.put, List.setIfInBounds_toArray, List.set_cons_zero, List.set_cons_succ]
    refine wpAnyH_done (by kernel_rfl) ?_ _
    clear c0 c1 hb wr1 wr2 z0 z1
    have W5 := W4
    have R5 := R4
    cases b with
    | true =>
      have E := hide (show rr = ((x.room, x.ps), 3) by rw [unhide RE, if_pos ⟨ok, okn⟩, if_pos (by simpa using unhide HB)])
      have d0 := (unhide W4).c0
      have d1 := (unhide W4).c1
      clear K0 K1
      go_wp2_with fail
      refine (sCopy _ x (unhide W5).r).mono ?_
      rintro e u2 ⟨y, yr, yp, rfl, oy, b2⟩
      have HY := hide (show (y.room, y.ps) = (x.room, x.ps) by rw [yr, yp])
      have R2 := hide ((unhide R5).below b2 (unhide R5).lt.2)
      have EN := hide (endedD ((unhide W5).b.trans (b2.mono (unhide W5).b.size)) (unhide R2) oy (unhide R5).lt.2)
      have f0 := (unhide R2).free 0
      have f1 := (unhide R2).free 1
      have r0 := (unhide R2).c0
      have r1 := (unhide R2).c1
      clear b2 oy yr yp d0 d1
      go_wp2
      refine bodyPost_ret (v := .tuple #[.agg #[.int .i64 y.room, .slice y.a y.ps.length y.c], .int .i64 3]) (by simp [results, Try.results14, go_sem, r0, r1]) rfl ?_
      rw [unhide E]
      exact ⟨y, unhide HY, rfl, (unhide EN).1, (unhide EN).2⟩
    | false =>
      have RE2 := hide (show rr = ((x.room, putF x.ps (appF x.ps nm s)), 0) by rw [unhide RE, if_pos ⟨ok, okn⟩, if_neg (by have := unhide HB; simpa using this)])
      have sr : (s.size : Int) ≤ x.room - sumZ x.ps := by have := unhide HB; simpa using this
      clear RE HB
      obtain ⟨V3, hV3⟩ : ∃ V3, Hid (V3 = v.alloc (.cells #[.int .i64 nm, .string ⟨#[]⟩, .string ⟨#[]⟩] 32)) := ⟨_, rfl⟩
      have b3 := hide (show Below v.heap.size v V3 by rw [unhide hV3]; exact one_more _ _)
      have W6 := hide ((unhide W5).step (unhide b3))
      have R6 := hide ((unhide R5).below (unhide b3) (unhide R5).lt.2)
      have F6 := hide (show OwnF 32 V3 w.heap.size v.heap.size 1 1 [(nm, ⟨#[]⟩, ⟨#[]⟩)] by rw [unhide hV3]; exact litF1 _ _ _ _ _ _ (by have := (unhide W5).lt; omega))
      have d0 := (unhide W6).c0
      have d1 := (unhide W6).c1
      have e0 : v.cell? ⟨w.heap.size, 0, none⟩ = some (.int .i64 x.room) := (unhide W5).c0
      have e1 : v.cell? ⟨w.heap.size, 1, none⟩ = some (.slice x.a x.ps.length x.c) := (unhide W5).c1
      have wl := (unhide W5).lt
      go_wp2_with fail
      rw [← unhide hV3]
      clear e0 e1 hV3
      refine (sFind V3 x nm (unhide W6).r).mono ?_
      rintro e u3 ⟨rfl, b4⟩
      have W7 := hide ((unhide W6).step b4)
      have R7 := hide ((unhide R6).below b4 (unhide R6).lt.2)
      have F7 := hide ((unhide F6).below b4 (by have := (unhide F6).lt; omega))
      have v7 := b4.size
      have fl := (unhide F6).lt
      clear b4 W6 R6 F6 d0 d1
      have FI := hide (findF_in (ps := x.ps) (nm := nm))
      have RF := hide (show appF x.ps nm s = if 0 ≤ findF x.ps nm then ((elF x.ps (findF x.ps nm).toNat).1, (elF x.ps (findF x.ps nm).toNat).2.1, (elF x.ps (findF x.ps nm).toNat).2.2 ++ s) else (nm, ⟨#[]⟩, s) from rfl)
      generalize appF x.ps nm s = ff at *
      generalize findF x.ps nm = fi at *
      have q0 : u3.cell? ⟨v.heap.size, 0, none⟩ = some (.int .i64 nm) := ((unhide F7).at 0 (by simp)).1
      have q1 : u3.cell? ⟨v.heap.size, 1, none⟩ = some (.string ⟨#[]⟩) := ((unhide F7).at 0 (by simp)).2.1
      have q2 : u3.cell? ⟨v.heap.size, 2, none⟩ = some (.string ⟨#[]⟩) := ((unhide F7).at 0 (by simp)).2.2
      have x0 := (unhide F7).free 0
      have x1 := (unhide F7).free 1
      have x2 := (unhide F7).free 2
      have z60 := ok.1.2
      by_cases fn : 0 ≤ fi
      · obtain ⟨k, rfl, kl, en⟩ := (unhide FI) fn
        have kt : (k : Int) < x.ps.length := by omega
        obtain ⟨g, ea, lg, h0, h1, h2⟩ := cells_of (unhide W7).r kl
        have ix := ixF x.c ea kl
        have NX := sumZ_next kl
        have LE := sumZ_le x.ps (k + 1)
        have ES := hide (show ff = ((elF x.ps k).1, (elF x.ps k).2.1, (elF x.ps k).2.2 ++ s) by rw [unhide RF, if_pos fn]; rfl)
        have s1 : (elF x.ps k).2.1.size + (elF x.ps k).2.2.size ≤ 1048576 := by omega
        clear FI RF en ea NX LE
        generalize (elF x.ps k).1 = z0 at *
        generalize (elF x.ps k).2.1 = z1 at *
        generalize (elF x.ps k).2.2 = z2 at *
        have s3 : z2.size + s.size ≤ 9223372036854775807 := by omega
        obtain ⟨o1, g1⟩ := (unhide F7).set0 0 z0
        obtain ⟨o2, g2⟩ := o1.set1 0 z1
        obtain ⟨o3, g3⟩ := o2.set2 0 z2
        obtain ⟨o4, g4⟩ := o3.set2 0 (z2 ++ s)
        have GG := hide (grow_grow (grow_grow (grow_grow g1 g2) g3) g4)
        have q3 : (((u3.setCell ⟨v.heap.size, 0, none⟩ (.int .i64 z0)).setCell ⟨v.heap.size, 1, none⟩ (.string z1)).setCell ⟨v.heap.size, 2, none⟩ (.string z2)).cell? ⟨v.heap.size, 2, none⟩ = some (.string z2) := (o3.at 0 (by simp)).2.2
        have d0 := (unhide W7).c0
        have d1 := (unhide W7).c1
        have B7 := hide (grow_low (unhide W7).b (unhide GG) ⟨by omega, (unhide W7).b.size⟩)
        have W5 := hide (show Wd w ((((u3.setCell ⟨v.heap.size, 0, none⟩ (.int .i64 z0)).setCell ⟨v.heap.size, 1, none⟩ (.string z1)).setCell ⟨v.heap.size, 2, none⟩ (.string z2)).setCell ⟨v.heap.size, 2, none⟩ (.string (z2 ++ s))) x from ⟨(kcell (unhide GG) 0 (unhide W7).lt (by omega)).trans d0, (kcell (unhide GG) 1 (unhide W7).lt (by omega)).trans d1, Nat.lt_of_lt_of_le (unhide W7).lt (unhide GG).size, unhide B7, (unhide HR).below (unhide B7)⟩)
        have R5 := hide (show Bc ((((u3.setCell ⟨v.heap.size, 0, none⟩ (.int .i64 z0)).setCell ⟨v.heap.size, 1, none⟩ (.string z1)).setCell ⟨v.heap.size, 2, none⟩ (.string z2)).setCell ⟨v.heap.size, 2, none⟩ (.string (z2 ++ s))) w.heap.size (w.heap.size + 1) (.int .i64 0) (.slice none 0 0) from (unhide R7).kept (unhide GG) (by simp; omega))
        have gsz := (unhide GG).size
        clear o1 o2 o3 o4 g1 g2 g3 g4
        go_wp2_with fail
        refine (sPut _ x z0 z1 (z2 ++ s) (unhide W5).r ok.2.1).mono ?_
        rintro e u2 ⟨y, yr, yp, rfl, oy, b2⟩
        have E := RE2
        have HY := hide (show (y.room, y.ps) = (x.room, putF x.ps ff) by rw [yr, yp, unhide ES])
        have R2 := hide ((unhide R5).below b2 (unhide R5).lt.2)
        have EN := hide (endedD ((unhide W5).b.trans (b2.mono (unhide W5).b.size)) (unhide R2) oy (unhide R5).lt.2)
        have f0 := (unhide R2).free 0
        have f1 := (unhide R2).free 1
        have r0 := (unhide R2).c0
        have r1 := (unhide R2).c1
        clear b2 oy yr yp
        go_wp2
        refine bodyPost_ret (v := .tuple #[.agg #[.int .i64 y.room, .slice y.a y.ps.length y.c], .int .i64 0]) (by simp [results, Try.results14, go_sem, r0, r1]) rfl ?_
        rw [unhide E]
        exact ⟨y, unhide HY, rfl, (unhide EN).1, (unhide EN).2⟩
      · have ES := hide (show ff = (nm, ⟨#[]⟩, s) by rw [unhide RF, if_neg fn])
        clear FI RF
        have s3 : s.size ≤ 9223372036854775807 := by omega
        obtain ⟨o3, g3⟩ := (unhide F7).set2 0 s
        have GG := hide g3
        have d0 := (unhide W7).c0
        have d1 := (unhide W7).c1
        have B7 := hide (grow_low (unhide W7).b (unhide GG) ⟨by omega, (unhide W7).b.size⟩)
        have W5 := hide (show Wd w (u3.setCell ⟨v.heap.size, 2, none⟩ (.string s)) x from ⟨(kcell (unhide GG) 0 (unhide W7).lt (by omega)).trans d0, (kcell (unhide GG) 1 (unhide W7).lt (by omega)).trans d1, Nat.lt_of_lt_of_le (unhide W7).lt (unhide GG).size, unhide B7, (unhide HR).below (unhide B7)⟩)
        have R5 := hide (show Bc (u3.setCell ⟨v.heap.size, 2, none⟩ (.string s)) w.heap.size (w.heap.size + 1) (.int .i64 0) (.slice none 0 0) from (unhide R7).kept (unhide GG) (by simp; omega))
        have gsz := (unhide GG).size
        clear o3 g3
        go_wp2_with fail
        refine (sPut _ x nm ⟨#[]⟩ s (unhide W5).r ok.2.1).mono ?_
        rintro e u2 ⟨y, yr, yp, rfl, oy, b2⟩
        have E := RE2
        have HY := hide (show (y.room, y.ps) = (x.room, putF x.ps ff) by rw [yr, yp, unhide ES])
        have R2 := hide ((unhide R5).below b2 (unhide R5).lt.2)
        have EN := hide (endedD ((unhide W5).b.trans (b2.mono (unhide W5).b.size)) (unhide R2) oy (unhide R5).lt.2)
        have f0 := (unhide R2).free 0
        have f1 := (unhide R2).free 1
        have r0 := (unhide R2).c0
        have r1 := (unhide R2).c1
        clear b2 oy yr yp
        go_wp2
        refine bodyPost_ret (v := .tuple #[.agg #[.int .i64 y.room, .slice y.a y.ps.length y.c], .int .i64 0]) (by simp [results, Try.results14, go_sem, r0, r1]) rfl ?_
        rw [unhide E]
        exact ⟨y, unhide HY, rfl, (unhide EN).1, (unhide EN).2⟩

end Go.Proofs.Ytejbbhjhinkcdaa.SAppend14
