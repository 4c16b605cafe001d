/- Disks: the program's DiskAppend. -/
import Derived.Test.YtejbbhjhinkcdaaICom14
import Derived.Test.YtejbbhjhinkcdaaSAppend14
import Derived.Test.YtejbbhjhinkcdaaISz14
import Derived.Deep.RegionHeld3
namespace Go.Proofs.Ytejbbhjhinkcdaa.IAppend14
open Go.ChangeShapes Go.WideShapes Go.ChangeAt Go.RowKit Fil14 DiskH14 DkH14 SDk14 SOk14 SRd14 App14 SLess14 SCopy14 SRef14 SCom14 SPut14 SAppend14 TabF14 PTab14 IFile14 ITb14 ICp14 IDk14 ICom14 ISz14
set_option linter.unusedVariables false
set_option linter.unusedSimpArgs false
abbrev oM0 : Oper := { dst := some 19, op := Go.Op.move (Go.Operand.tmp 2), type := 9, pos := "l14_disk.go:54", after := #[], guard := none }
abbrev oM1 : Oper := { dst := some 20, op := Go.Op.call { callee := Go.Callee.builtin Go.Builtin.len, args := #[Go.Operand.tmp 19], argTypes := #[9] }, type := 3, pos := "l14_disk.go:54", after := #[{ on := 0, ground := Go.Ground.data }], guard := none }
abbrev oM2 : Oper := { dst := some 21, op := Go.Op.fieldAddr 26 (Go.Operand.tmp 3) 0, type := 0, pos := "l14_disk.go:54", after := #[], guard := none }
abbrev oM3 : Oper := { dst := some 22, op := Go.Op.load 3 (Go.Operand.tmp 21), type := 3, pos := "l14_disk.go:54", after := #[{ on := 2, ground := Go.Ground.data }], guard := none }
abbrev oM4 : Oper := { dst := some 23, op := Go.Op.load 26 (Go.Operand.tmp 3), type := 26, pos := "l14_disk.go:54", after := #[], guard := none }
abbrev oM5 : Oper := { dst := some 24, op := Go.Op.call { callee := Go.Callee.value (Go.Operand.func 34), args := #[Go.Operand.tmp 23], argTypes := #[26] }, type := 3, pos := "l14_disk.go:54", after := #[{ on := 4, ground := Go.Ground.data }], guard := none }
abbrev oM6 : Oper := { dst := some 25, op := Go.Op.binOp Go.BinOp.sub 3 (Go.Operand.tmp 22) (Go.Operand.tmp 24) 3, type := 3, pos := "l14_disk.go:54", after := #[{ on := 3, ground := Go.Ground.data }, { on := 5, ground := Go.Ground.data }], guard := none }
abbrev oM7 : Oper := { dst := some 26, op := Go.Op.binOp Go.BinOp.gtr 3 (Go.Operand.tmp 20) (Go.Operand.tmp 25) 3, type := 4, pos := "l14_disk.go:54", after := #[{ on := 1, ground := Go.Ground.data }, { on := 6, ground := Go.Ground.data }], guard := none }
set_option maxRecDepth 100000 in
set_option maxHeartbeats 4000000 in
theorem iDiskAppend (w : World) (x : Dx) (nm : Int) (s : ByteArray) (hr : RdD w x) (hz : sumZ x.ps ≤ 1048576) (hs : s.size ≤ 9223372036854775807) : Calls Try.prog 13 #[.agg #[.int .i64 x.room, .slice x.a x.ps.length x.c], .int .i64 nm, .string s] w (ToldD (appendD x.room x.ps nm s) w) := by
  have G0 := hide (begunD hr)
  have s2 : ((w.alloc (.cells #[.int .i64 x.room, .slice x.a x.ps.length x.c] 26)).alloc (.cells #[.int .i64 0, .slice none 0 0] 26)).heap.size = w.heap.size + 2 := by simp
  have OK0 := hide (fun b h => iOkB _ x b (unhide G0).1.r hz h)
  have N_nm := hide (fun u b h => iNameB u nm b h)
  have XA := hide (fun g e => (hr.r g e).1)
  have h20 := hr.n
  clear hr
  by_cases ok : OkD x.room x.ps
  case neg =>
    have E := hide (show appendD x.room x.ps nm s = ((0, []), 1) by unfold appendD; rw [if_neg (fun h => ok h.1)])
    generalize appendD x.room x.ps nm s = rr at *
    have OKD := hide (decide_eq_false ok)
    clear ok
    go_enter Try.func13, Try.ntmps13
    go_wp2_with fail
    refine ((unhide OK0) false (unhide OKD)).mono ?_
    rintro e u ⟨rfl, b1⟩
    have R2 := hide ((unhide G0).2.below b1 (by omega))
    have WU := hide ((unhide G0).1.step b1)
    have us := b1.size
    rw [s2] at us
    clear b1 G0 OK0 s2
    have c0 := (unhide WU).c0
    have c1 := (unhide WU).c1
    have lt := (unhide WU).lt
    have EN := hide (endedD (y := ⟨0, none, 0, []⟩) (base0 := w.heap.size + 2) (unhide WU).b (unhide R2) ⟨rfl, .inl ⟨rfl, rfl⟩⟩ (by omega))
    have f0 := (unhide R2).free 0
    have f1 := (unhide R2).free 1
    have r0 := (unhide R2).c0
    have r1 := (unhide R2).c1
    clear c0 c1 lt
    go_wp2
    refine bodyPost_ret (v := .tuple #[.agg #[.int .i64 0, .slice none 0 0], .int .i64 1]) (by simp [results, Try.results13, go_sem, r0, r1]) rfl ?_
    rw [unhide E]
    exact ⟨⟨0, none, 0, []⟩, rfl, rfl, (unhide EN).1, (unhide EN).2⟩
  have OKD := hide (decide_eq_true ok)
  have OK := hide ok
  by_cases nk : okN nm = true
  case neg =>
    have E := hide (show appendD x.room x.ps nm s = ((0, []), 1) by unfold appendD; rw [if_neg (fun h => nk h.2)])
    generalize appendD x.room x.ps nm s = rr at *
    have NK := hide (show okN nm = false by simpa using nk)
    clear ok nk
    go_enter Try.func13, Try.ntmps13
    go_wp2_with fail
    refine ((unhide OK0) true (unhide OKD)).mono ?_
    rintro e u ⟨rfl, b1⟩
    have R2 := hide ((unhide G0).2.below b1 (by omega))
    have WU := hide ((unhide G0).1.step b1)
    have us := b1.size
    rw [s2] at us
    clear b1 G0 OK0 s2
    have c0 := (unhide WU).c0
    have c1 := (unhide WU).c1
    have lt := (unhide WU).lt
    go_wp2_with fail
    refine ((unhide N_nm) _ false (unhide NK)).mono ?_
    rintro e u ⟨rfl, rfl⟩
    have EN := hide (endedD (y := ⟨0, none, 0, []⟩) (base0 := w.heap.size + 2) (unhide WU).b (unhide R2) ⟨rfl, .inl ⟨rfl, rfl⟩⟩ (by omega))
    have f0 := (unhide R2).free 0
    have f1 := (unhide R2).free 1
    have r0 := (unhide R2).c0
    have r1 := (unhide R2).c1
    clear c0 c1 lt
    go_wp2
    refine bodyPost_ret (v := .tuple #[.agg #[.int .i64 0, .slice none 0 0], .int .i64 1]) (by simp [results, Try.results13, go_sem, r0, r1]) rfl ?_
    rw [unhide E]
    exact ⟨⟨0, none, 0, []⟩, rfl, rfl, (unhide EN).1, (unhide EN).2⟩
  have NK := hide nk
  have WF := hide (wf_ok nk)
  have TL := hide (tl_ok ok)
  have RE := hide (show appendD x.room x.ps nm s = if x.room - sumZ x.ps < s.size then ((x.room, x.ps), 3) else ((x.room, putF x.ps (appF x.ps nm s)), 0) by unfold appendD; rw [if_pos ⟨ok, nk⟩])
  generalize appendD x.room x.ps nm s = rr at *
  have z60 := ok.1
  have zr := ok.2.2.1
  obtain ⟨p, HP, EA, SP⟩ : ∃ p : TF, (tabOf x.ps nm).getD z0 = p ∧ appF x.ps nm s = (nm, p.2.1, p.2.2 ++ s) ∧ p.2.1.size + p.2.2.size ≤ 1048576 := by
    unfold appF
    by_cases q : findF x.ps nm < 0
    · have FN := tl_no (unhide TL) q
      refine ⟨z0, by rw [FN]; rfl, ?_, by simp⟩
      rw [if_neg (by omega)]
      show (nm, ByteArray.empty, s) = (nm, ByteArray.empty, ByteArray.empty ++ s)
      rw [ByteArray.empty_append]
    · obtain ⟨k, ek, kl, en⟩ := findF_in (ps := x.ps) (nm := nm) (by omega)
      have FY := tl_yes (unhide TL) kl en
      refine ⟨elF x.ps k, by rw [FY]; rfl, ?_, el_size hz kl⟩
      rw [if_pos (by omega), ek, Int.toNat_natCast, en]
  have ROW := hide (tl_row (tl_put (unhide TL) (appF x.ps nm s) (by rw [EA]; exact Pure14.ok_named.1 nk)))
  rw [EA] at ROW RE
  obtain ⟨p0, p1, p2⟩ := p
  have HP := hide HP
  simp only at ROW RE SP
  obtain ⟨b, hb⟩ : ∃ b, decide ((s.size : Int) > x.room - sumZ x.ps) = b := ⟨_, rfl⟩
  have HB := hide hb
  have wr : wrap64 (x.room - sumZ x.ps) = x.room - sumZ x.ps := by rw [wrap64]; omega
  have wr2 : IntKind.i64.wrap (x.room - sumZ x.ps) = x.room - sumZ x.ps := by rw [IntKind.wrap_i64]; omega
  clear EA TL ok nk
  go_enter Try.func13, Try.ntmps13
  go_wp2_with fail
  refine ((unhide OK0) true (unhide OKD)).mono ?_
  rintro e u ⟨rfl, b1⟩
  have R2 := hide ((unhide G0).2.below b1 (by omega))
  have WU := hide ((unhide G0).1.step b1)
  have us := b1.size
  rw [s2] at us
  clear b1 G0 OK0 s2
  have c0 := (unhide WU).c0
  have c1 := (unhide WU).c1
  have lt := (unhide WU).lt
  go_wp2_with fail
  refine ((unhide N_nm) _ true (unhide NK)).mono ?_
  rintro e u ⟨rfl, rfl⟩
  have K0 : u.cell? ⟨w.heap.size, 0, none⟩ = some (.int .i64 x.room) ∧ u.cell? ⟨w.heap.size, 1, none⟩ = some (.slice x.a x.ps.length x.c) := ⟨c0, c1⟩
  go_wp2_with fail
  refine wp_region_held_drew (S := (fun w' => w'.cell? ⟨w.heap.size, 0, none⟩ = some (.int .i64 x.room) ∧ w'.cell? ⟨w.heap.size, 1, none⟩ = some (.slice x.a x.ps.length x.c))) (by kernel_rfl) K0 (fun hHeld => ?_)
  refine wpAnyH_take (i := 0) (oi := oM0) (v := .string s) rfl (by kernel_rfl) (by kernel_rfl) (by kernel_rfl) (fun _ _ _ h => h) (Or.inl ⟨by rfl, fun w hSw => ?_⟩) hHeld ?_
  · (try dsimp only at hSw)
    unfold oM0
    go_simp
  try simp only [oM0, Act.put, List.setIfInBounds_toArray, List.set_cons_zero, List.set_cons_succ]
  refine wpAnyH_take (i := 1) (oi := oM1) (v := .int .i64 s.size) rfl (by kernel_rfl) (by kernel_rfl) (by kernel_rfl) (fun _ _ _ h => h) (Or.inl ⟨by rfl, fun w hSw => ?_⟩) hHeld ?_
  · (try dsimp only at hSw)
    unfold oM1
    go_simp
  try simp only [oM1, Act.put, List.setIfInBounds_toArray, List.set_cons_zero, List.set_cons_succ]
  refine wpAnyH_take (i := 2) (oi := oM2) (v := .pointer (some ⟨w.heap.size, 0, none⟩)) rfl (by kernel_rfl) (by kernel_rfl) (by kernel_rfl) (fun _ _ _ h => h) (Or.inl ⟨by rfl, fun w hSw => ?_⟩) hHeld ?_
  · (try dsimp only at hSw)
    unfold oM2
    go_simp
  try simp only [oM2, Act.put, List.setIfInBounds_toArray, List.set_cons_zero, List.set_cons_succ]
  refine wpAnyH_take (i := 3) (oi := oM3) (v := .int .i64 x.room) rfl (by kernel_rfl) (by kernel_rfl) (by kernel_rfl) (fun _ _ _ h => h) (Or.inl ⟨by rfl, fun w hSw => ?_⟩) hHeld ?_
  · (try dsimp only at hSw)
    unfold oM3
    go_simp
  try simp only [oM3, Act.put, List.setIfInBounds_toArray, List.set_cons_zero, List.set_cons_succ]
  refine wpAnyH_take (i := 4) (oi := oM4) (v := .agg #[.int .i64 x.room, .slice x.a x.ps.length x.c]) rfl (by kernel_rfl) (by kernel_rfl) (by kernel_rfl) (fun _ _ _ h => h) (Or.inl ⟨by rfl, fun w hSw => ?_⟩) hHeld ?_
  · (try dsimp only at hSw)
    unfold oM4
    go_simp
  try simp only [oM4, Act.put, List.setIfInBounds_toArray, List.set_cons_zero, List.set_cons_succ]
  refine wpAnyH_ready (rs := [5]) (by kernel_rfl) (by simp) ?_
  refine AllReadyH.cons (o := oM5) rfl (fun K hK => ?_) AllReadyH.nil
  unfold oM5
  go_simp
  go_wp2_with fail
  refine (iSizeD u.drew x (unhide WU).drew.r hz).mono ?_
  rintro e v ⟨rfl, bb⟩
  have bb1 : Below u.heap.size u v := ⟨bb.os, bb.tape, bb.output, bb.size, bb.block⟩
  have WV := hide ((unhide WU).step bb1)
  have RV := hide ((unhide R2).below bb1 (unhide R2).lt.2)
  have K1 : v.cell? ⟨w.heap.size, 0, none⟩ = some (.int .i64 x.room) ∧ v.cell? ⟨w.heap.size, 1, none⟩ = some (.slice x.a x.ps.length x.c) := ⟨(unhide WV).c0, (unhide WV).c1⟩
  have vs := bb1.size
  clear bb bb1
  go_wp2_with fail
  refine hK.out _ _ K1 (fun hHeld => ?_)
  clear hK K
  try simp only [oM5, Act.put, List.setIfInBounds_toArray, List.set_cons_zero, List.set_cons_succ]
  refine wpAnyH_take (i := 6) (oi := oM6) (v := .int .i64 (x.room - sumZ x.ps)) rfl (by kernel_rfl) (by kernel_rfl) (by kernel_rfl) (fun _ _ _ h => h) (Or.inl ⟨by rfl, fun w hSw => ?_⟩) hHeld ?_
  · (try dsimp only at hSw)
    unfold oM6
    go_simp
  try simp only [oM6, Act.put, List.setIfInBounds_toArray, List.set_cons_zero, List.set_cons_succ]
  refine wpAnyH_take (i := 7) (oi := oM7) (v := .bool b) rfl (by kernel_rfl) (by kernel_rfl) (by kernel_rfl) (fun _ _ _ h => h) (Or.inl ⟨by rfl, fun w hSw => ?_⟩) hHeld ?_
  · (try dsimp only at hSw)
    unfold oM7
    go_simp
  try simp only [oM7, Act.put, List.setIfInBounds_toArray, List.set_cons_zero, List.set_cons_succ]
  refine wpAnyH_done (by kernel_rfl) ?_ _
  clear K0 K1 c0 c1 lt WU R2 wr wr2
  cases b with
  | true =>
    have E := hide (show rr = ((x.room, x.ps), 3) by rw [unhide RE, if_pos (by have := unhide HB; simpa using this)])
    have c0 := (unhide WV).c0
    have c1 := (unhide WV).c1
    have lt := (unhide WV).lt
    clear hb HB RE ROW HP
    go_wp2_with fail
    refine (iCopied _ x (unhide WV).r).mono ?_
    rintro e u9 ⟨y, hy0, hy, rfl, oy, b9⟩
    have R9 := hide ((unhide RV).below b9 (unhide RV).lt.2)
    have HY := hide (show (y.room, y.ps) = (x.room, x.ps) by rw [hy0, hy])
    have sz9 := (unhide RV).lt.2
    have EN := hide (endedD ((unhide WV).b.trans (b9.mono (unhide WV).b.size)) (unhide R9) oy (by omega))
    have f0 := (unhide R9).free 0
    have f1 := (unhide R9).free 1
    have r0 := (unhide R9).c0
    have r1 := (unhide R9).c1
    clear b9 oy hy0 hy c0 c1 lt
    go_wp2
    refine bodyPost_ret (v := .tuple #[.agg #[.int .i64 y.room, .slice y.a y.ps.length y.c], .int .i64 3]) (by simp [results, Try.results13, go_sem, r0, r1]) rfl ?_
    rw [unhide E]
    exact ⟨y, unhide HY, rfl, (unhide EN).1, (unhide EN).2⟩
  | false =>
    have E := hide (show rr = ((x.room, putF x.ps (nm, p1, p2 ++ s)), 0) by rw [unhide RE, if_neg (by have := unhide HB; simpa using this)])
    have sr : (s.size : Int) ≤ x.room - sumZ x.ps := by have := unhide HB; simpa using this
    have c0 := (unhide WV).c0
    have c1 := (unhide WV).c1
    have lt := (unhide WV).lt
    clear hb HB RE
    go_wp2_with fail
    refine (iTable _ x (unhide WV).r (wf_names (unhide OK))).mono ?_
    rintro e u1 ⟨rfl, tt, b2⟩
    have S1 := hide (show St w u1 x (v.heap.size + 1) x.ps.length (tabOf x.ps) from ⟨(unhide WV).step b2, (unhide RV).below b2 (unhide RV).lt.2, tt, by omega, unhide XA⟩)
    have us1 := b2.size
    clear tt b2 WV RV c0 c1 lt
    have S2 := hide ((unhide S1).step (one_more u1 (.cells #[.int .i64 p0, .string p1, .string p2] 32)))
    have sc : p2.size + s.size ≤ 9223372036854775807 := by omega
    have c0 := (unhide S2).d.c0
    have c1 := (unhide S2).d.c1
    have lt := (unhide S2).d.lt
    go_wp2_with (first | (at_lookup; refine wp_look _ rfl _ _ rfl (v.heap.size + 1) _ _ rfl (unhide S1).t nm rfl (unhide WF) _ (unhide HP) ?_) | (at_mapUpdate; refine wp_put _ rfl _ _ _ rfl (v.heap.size + 1) _ _ rfl (unhide S2).t h20 nm (nm, p1, p2 ++ s) rfl rfl (unhide WF) ?_; intro u4 t4 g4; have S4 := hide ((unhide S2).turn t4 g4); clear t4 g4 c0 c1 lt; have c0 := (unhide S4).d.c0; have c1 := (unhide S4).d.c1; have lt := (unhide S4).d.lt) | fail)
    refine (iDisk _ (v.heap.size + 1) _ _ x.room (unhide S4).t).mono ?_
    rintro e u9 ⟨y, hy0, hy, rfl, oy, b9⟩
    have R9 := hide ((unhide S4).r.below b9 (unhide S4).r.lt.2)
    have HY := hide (show (y.room, y.ps) = (x.room, putF x.ps (nm, p1, p2 ++ s)) by rw [hy0, hy, unhide ROW])
    have sz9 := (unhide S4).r.lt.2
    have EN := hide (endedD ((unhide S4).d.b.trans (b9.mono (unhide S4).d.b.size)) (unhide R9) oy (by omega))
    have f0 := (unhide R9).free 0
    have f1 := (unhide R9).free 1
    have r0 := (unhide R9).c0
    have r1 := (unhide R9).c1
    clear b9 oy hy0 hy c0 c1 lt
    go_wp2
    refine bodyPost_ret (v := .tuple #[.agg #[.int .i64 y.room, .slice y.a y.ps.length y.c], .int .i64 0]) (by simp [results, Try.results13, go_sem, r0, r1]) rfl ?_
    rw [unhide E]
    exact ⟨y, unhide HY, rfl, (unhide EN).1, (unhide EN).2⟩
end Go.Proofs.Ytejbbhjhinkcdaa.IAppend14
