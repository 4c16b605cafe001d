/- Texts of one proof, one behind the other: IAppend14, ILate15, ISync14, IAdd15, ICut14, IMend15, IFrom15, IClear15, LawS11. -/
import Derived.Test.YticofefdbjihiaaRows
import Derived.Test.YticofefdbjihiaaFG1
import Derived.Test.YticofefdbjihiaaFG2
import Derived.Test.YticofefdbjihiaaFG3
import Derived.Test.YticofefdbjihiaaFG4
import Derived.Test.YticofefdbjihiaaFG5
import Derived.Test.YticofefdbjihiaaFG6
import Derived.Test.YticofefdbjihiaaFG7
import Derived.Test.YticofefdbjihiaaFG8
import Derived.Deep.RegionHeld3
set_option linter.unusedVariables false
set_option linter.unusedSimpArgs false
namespace Go.Proofs.Yticofefdbjihiaa.IAppend14
open Go.ChangeShapes Go.WideShapes Go.ChangeAt Go.RowKit Fil14 OpensF14 DiskH14 DkH14 SDk14 SOk14 SRd14 App14 SLess14 SCopy14 SRef14 SCom14 SPut14 SAppend14 TabF14 PTab14 IFile14 ITb14 ICp14 IDk14 ICom14 ISz14
abbrev oM0 : Oper := { dst := some 19, op := Go.Op.move (Go.Operand.tmp 2), type := 9, pos := "l14_disk.go:54", after := #[], guard := none }
abbrev oM1 : Oper := { dst := some 20, op := Go.Op.call { callee := Go.Callee.builtin Go.Builtin.len, args := #[Go.Operand.tmp 19], argTypes := #[9] }, type := 3, pos := "l14_disk.go:54", after := #[{ on := 0, ground := Go.Ground.data }], guard := none }
abbrev oM2 : Oper := { dst := some 21, op := Go.Op.fieldAddr 31 (Go.Operand.tmp 3) 0, type := 0, pos := "l14_disk.go:54", after := #[], guard := none }
abbrev oM3 : Oper := { dst := some 22, op := Go.Op.load 3 (Go.Operand.tmp 21), type := 3, pos := "l14_disk.go:54", after := #[{ on := 2, ground := Go.Ground.data }], guard := none }
abbrev oM4 : Oper := { dst := some 23, op := Go.Op.load 31 (Go.Operand.tmp 3), type := 31, pos := "l14_disk.go:54", after := #[], guard := none }
abbrev oM5 : Oper := { dst := some 24, op := Go.Op.call { callee := Go.Callee.value (Go.Operand.func 83), args := #[Go.Operand.tmp 23], argTypes := #[31] }, type := 3, pos := "l14_disk.go:54", after := #[{ on := 4, ground := Go.Ground.data }], guard := none }
abbrev oM6 : Oper := { dst := some 25, op := Go.Op.binOp Go.BinOp.sub 3 (Go.Operand.tmp 22) (Go.Operand.tmp 24) 3, type := 3, pos := "l14_disk.go:54", after := #[{ on := 3, ground := Go.Ground.data }, { on := 5, ground := Go.Ground.data }], guard := none }
abbrev oM7 : Oper := { dst := some 26, op := Go.Op.binOp Go.BinOp.gtr 3 (Go.Operand.tmp 20) (Go.Operand.tmp 25) 3, type := 4, pos := "l14_disk.go:54", after := #[{ on := 1, ground := Go.Ground.data }, { on := 6, ground := Go.Ground.data }], guard := none }
set_option maxRecDepth 100000 in
set_option maxHeartbeats 4000000 in
theorem iDiskAppend (w : World) (x : Dx) (nm : Int) (s : ByteArray) (hr : RdD w x) (hz : sumZ x.ps ≤ 1048576) (hs : s.size ≤ 9223372036854775807) : Calls Try.prog 50 #[.agg #[.int .i64 x.room, .slice x.a x.ps.length x.c], .int .i64 nm, .string s] w (ToldD (appendD x.room x.ps nm s) w) := by
  have G0 := hide (begunD hr)
  have s2 : ((w.alloc (.cells #[.int .i64 x.room, .slice x.a x.ps.length x.c] 31)).alloc (.cells #[.int .i64 0, .slice none 0 0] 31)).heap.size = w.heap.size + 2 := by simp
  have OK0 := hide (fun b h => iOkB _ x b (unhide G0).1.r hz h)
  have N_nm := hide (fun u b h => iNameB u nm b h)
  have XA := hide (fun g e => (hr.r g e).1)
  have h20 := hr.n
  clear hr
  by_cases ok : OkD x.room x.ps
  case neg =>
    have E := hide (show appendD x.room x.ps nm s = ((0, []), 1) by unfold appendD; rw [if_neg (fun h => ok h.1)])
    generalize appendD x.room x.ps nm s = rr at *
    have OKD := hide (decide_eq_false ok)
    clear ok
    go_enter Try.func50, Try.ntmps50
    go_wp2_with fail
    refine ((unhide OK0) false (unhide OKD)).mono ?_
    rintro e u ⟨rfl, b1⟩
    have R2 := hide ((unhide G0).2.below b1 (by omega))
    have WU := hide ((unhide G0).1.step b1)
    have us := b1.size
    rw [s2] at us
    clear b1 G0 OK0 s2
    have c0 := (unhide WU).c0
    have c1 := (unhide WU).c1
    have lt := (unhide WU).lt
    have EN := hide (endedD (y := ⟨0, none, 0, []⟩) (base0 := w.heap.size + 2) (unhide WU).b (unhide R2) ⟨rfl, .inl ⟨rfl, rfl⟩⟩ (by omega))
    have f0 := (unhide R2).free 0
    have f1 := (unhide R2).free 1
    have r0 := (unhide R2).c0
    have r1 := (unhide R2).c1
    clear c0 c1 lt
    go_wp2
    refine bodyPost_ret (v := .tuple #[.agg #[.int .i64 0, .slice none 0 0], .int .i64 1]) (by simp [results, Try.results50, go_sem, r0, r1]) rfl ?_
    rw [unhide E]
    exact ⟨⟨0, none, 0, []⟩, rfl, rfl, (unhide EN).1, (unhide EN).2⟩
  have OKD := hide (decide_eq_true ok)
  have OK := hide ok
  by_cases nk : okN nm = true
  case neg =>
    have E := hide (show appendD x.room x.ps nm s = ((0, []), 1) by unfold appendD; rw [if_neg (fun h => nk h.2)])
    generalize appendD x.room x.ps nm s = rr at *
    have NK := hide (show okN nm = false by simpa using nk)
    clear ok nk
    go_enter Try.func50, Try.ntmps50
    go_wp2_with fail
    refine ((unhide OK0) true (unhide OKD)).mono ?_
    rintro e u ⟨rfl, b1⟩
    have R2 := hide ((unhide G0).2.below b1 (by omega))
    have WU := hide ((unhide G0).1.step b1)
    have us := b1.size
    rw [s2] at us
    clear b1 G0 OK0 s2
    have c0 := (unhide WU).c0
    have c1 := (unhide WU).c1
    have lt := (unhide WU).lt
    go_wp2_with fail
    refine ((unhide N_nm) _ false (unhide NK)).mono ?_
    rintro e u ⟨rfl, rfl⟩
    have EN := hide (endedD (y := ⟨0, none, 0, []⟩) (base0 := w.heap.size + 2) (unhide WU).b (unhide R2) ⟨rfl, .inl ⟨rfl, rfl⟩⟩ (by omega))
    have f0 := (unhide R2).free 0
    have f1 := (unhide R2).free 1
    have r0 := (unhide R2).c0
    have r1 := (unhide R2).c1
    clear c0 c1 lt
    go_wp2
    refine bodyPost_ret (v := .tuple #[.agg #[.int .i64 0, .slice none 0 0], .int .i64 1]) (by simp [results, Try.results50, go_sem, r0, r1]) rfl ?_
    rw [unhide E]
    exact ⟨⟨0, none, 0, []⟩, rfl, rfl, (unhide EN).1, (unhide EN).2⟩
  have NK := hide nk
  have WF := hide (wf_ok nk)
  have TL := hide (tl_ok ok)
  have RE := hide (show appendD x.room x.ps nm s = if x.room - sumZ x.ps < s.size then ((x.room, x.ps), 3) else ((x.room, putF x.ps (appF x.ps nm s)), 0) by unfold appendD; rw [if_pos ⟨ok, nk⟩])
  generalize appendD x.room x.ps nm s = rr at *
  have z60 := ok.1
  have zr := ok.2.2.1
  obtain ⟨p, HP, EA, SP⟩ : ∃ p : TF, (tabOf x.ps nm).getD z0 = p ∧ appF x.ps nm s = (nm, p.2.1, p.2.2 ++ s) ∧ p.2.1.size + p.2.2.size ≤ 1048576 := by
    unfold appF
    by_cases q : findF x.ps nm < 0
    · have FN := tl_no (unhide TL) q
      refine ⟨z0, by rw [FN]; rfl, ?_, by simp⟩
      rw [if_neg (by omega)]
      show (nm, ByteArray.empty, s) = (nm, ByteArray.empty, ByteArray.empty ++ s)
      rw [ByteArray.empty_append]
    · obtain ⟨k, ek, kl, en⟩ := findF_in (ps := x.ps) (nm := nm) (by omega)
      have FY := tl_yes (unhide TL) kl en
      refine ⟨elF x.ps k, by rw [FY]; rfl, ?_, el_size hz kl⟩
      rw [if_pos (by omega), ek, Int.toNat_natCast, en]
  have ROW := hide (tl_row (tl_put (unhide TL) (appF x.ps nm s) (by rw [EA]; exact Pure14.ok_named.1 nk)))
  rw [EA] at ROW RE
  obtain ⟨p0, p1, p2⟩ := p
  have HP := hide HP
  simp only at ROW RE SP
  obtain ⟨b, hb⟩ : ∃ b, decide ((s.size : Int) > x.room - sumZ x.ps) = b := ⟨_, rfl⟩
  have HB := hide hb
  have wr : wrap64 (x.room - sumZ x.ps) = x.room - sumZ x.ps := by rw [wrap64]; omega
  have wr2 : IntKind.i64.wrap (x.room - sumZ x.ps) = x.room - sumZ x.ps := by rw [IntKind.wrap_i64]; omega
  clear EA TL ok nk
  go_enter Try.func50, Try.ntmps50
  go_wp2_with fail
  refine ((unhide OK0) true (unhide OKD)).mono ?_
  rintro e u ⟨rfl, b1⟩
  have R2 := hide ((unhide G0).2.below b1 (by omega))
  have WU := hide ((unhide G0).1.step b1)
  have us := b1.size
  rw [s2] at us
  clear b1 G0 OK0 s2
  have c0 := (unhide WU).c0
  have c1 := (unhide WU).c1
  have lt := (unhide WU).lt
  go_wp2_with fail
  refine ((unhide N_nm) _ true (unhide NK)).mono ?_
  rintro e u ⟨rfl, rfl⟩
  have K0 : u.cell? ⟨w.heap.size, 0, none⟩ = some (.int .i64 x.room) ∧ u.cell? ⟨w.heap.size, 1, none⟩ = some (.slice x.a x.ps.length x.c) := ⟨c0, c1⟩
  go_wp2_with fail
  refine wp_region_held_drew (S := (fun w' => w'.cell? ⟨w.heap.size, 0, none⟩ = some (.int .i64 x.room) ∧ w'.cell? ⟨w.heap.size, 1, none⟩ = some (.slice x.a x.ps.length x.c))) (by kernel_rfl) K0 (fun hHeld => ?_)
  refine wpAnyH_take (i := 0) (oi := oM0) (v := .string s) rfl (by kernel_rfl) (by kernel_rfl) (by kernel_rfl) (fun _ _ _ h => h) (Or.inl ⟨by rfl, fun w hSw => ?_⟩) hHeld ?_
  · (try dsimp only at hSw)
    unfold oM0
    go_simp
  try simp only [oM0, Act.put, List.setIfInBounds_toArray, List.set_cons_zero, List.set_cons_succ]
  refine wpAnyH_take (i := 1) (oi := oM1) (v := .int .i64 s.size) rfl (by kernel_rfl) (by kernel_rfl) (by kernel_rfl) (fun _ _ _ h => h) (Or.inl ⟨by rfl, fun w hSw => ?_⟩) hHeld ?_
  · (try dsimp only at hSw)
    unfold oM1
    go_simp
  try simp only [oM1, Act.put, List.setIfInBounds_toArray, List.set_cons_zero, List.set_cons_succ]
  refine wpAnyH_take (i := 2) (oi := oM2) (v := .pointer (some ⟨w.heap.size, 0, none⟩)) rfl (by kernel_rfl) (by kernel_rfl) (by kernel_rfl) (fun _ _ _ h => h) (Or.inl ⟨by rfl, fun w hSw => ?_⟩) hHeld ?_
  · (try dsimp only at hSw)
    unfold oM2
    go_simp
  try simp only [oM2, Act.put, List.setIfInBounds_toArray, List.set_cons_zero, List.set_cons_succ]
  refine wpAnyH_take (i := 3) (oi := oM3) (v := .int .i64 x.room) rfl (by kernel_rfl) (by kernel_rfl) (by kernel_rfl) (fun _ _ _ h => h) (Or.inl ⟨by rfl, fun w hSw => ?_⟩) hHeld ?_
  · (try dsimp only at hSw)
    unfold oM3
    go_simp
  try simp only [oM3, Act.put, List.setIfInBounds_toArray, List.set_cons_zero, List.set_cons_succ]
  refine wpAnyH_take (i := 4) (oi := oM4) (v := .agg #[.int .i64 x.room, .slice x.a x.ps.length x.c]) rfl (by kernel_rfl) (by kernel_rfl) (by kernel_rfl) (fun _ _ _ h => h) (Or.inl ⟨by rfl, fun w hSw => ?_⟩) hHeld ?_
  · (try dsimp only at hSw)
    unfold oM4
    go_simp
  try simp only [oM4, Act.put, List.setIfInBounds_toArray, List.set_cons_zero, List.set_cons_succ]
  refine wpAnyH_ready (rs := [5]) (by kernel_rfl) (by simp) ?_
  refine AllReadyH.cons (o := oM5) rfl (fun K hK => ?_) AllReadyH.nil
  unfold oM5
  go_simp
  go_wp2_with fail
  refine (iSizeD u.drew x (unhide WU).drew.r hz).mono ?_
  rintro e v ⟨rfl, bb⟩
  have bb1 : Below u.heap.size u v := ⟨bb.os, bb.tape, bb.output, bb.size, bb.block⟩
  have WV := hide ((unhide WU).step bb1)
  have RV := hide ((unhide R2).below bb1 (unhide R2).lt.2)
  have K1 : v.cell? ⟨w.heap.size, 0, none⟩ = some (.int .i64 x.room) ∧ v.cell? ⟨w.heap.size, 1, none⟩ = some (.slice x.a x.ps.length x.c) := ⟨(unhide WV).c0, (unhide WV).c1⟩
  have vs := bb1.size
  clear bb bb1
  go_wp2_with fail
  refine hK.out _ _ K1 (fun hHeld => ?_)
  clear hK K
  try simp only [oM5, Act.put, List.setIfInBounds_toArray, List.set_cons_zero, List.set_cons_succ]
  refine wpAnyH_take (i := 6) (oi := oM6) (v := .int .i64 (x.room - sumZ x.ps)) rfl (by kernel_rfl) (by kernel_rfl) (by kernel_rfl) (fun _ _ _ h => h) (Or.inl ⟨by rfl, fun w hSw => ?_⟩) hHeld ?_
  · (try dsimp only at hSw)
    unfold oM6
    go_simp
  try simp only [oM6, Act.put, List.setIfInBounds_toArray, List.set_cons_zero, List.set_cons_succ]
  refine wpAnyH_take (i := 7) (oi := oM7) (v := .bool b) rfl (by kernel_rfl) (by kernel_rfl) (by kernel_rfl) (fun _ _ _ h => h) (Or.inl ⟨by rfl, fun w hSw => ?_⟩) hHeld ?_
  · (try dsimp only at hSw)
    unfold oM7
    go_simp
  try simp only [oM7, Act.put, List.setIfInBounds_toArray, List.set_cons_zero, List.set_cons_succ]
  refine wpAnyH_done (by kernel_rfl) ?_ _
  clear K0 K1 c0 c1 lt WU R2 wr wr2
  cases b with
  | true =>
    have E := hide (show rr = ((x.room, x.ps), 3) by rw [unhide RE, if_pos (by have := unhide HB; simpa using this)])
    have c0 := (unhide WV).c0
    have c1 := (unhide WV).c1
    have lt := (unhide WV).lt
    clear hb HB RE ROW HP
    go_wp2_with fail
    refine (iCopied _ x (unhide WV).r).mono ?_
    rintro e u9 ⟨y, hy0, hy, rfl, oy, b9⟩
    have R9 := hide ((unhide RV).below b9 (unhide RV).lt.2)
    have HY := hide (show (y.room, y.ps) = (x.room, x.ps) by rw [hy0, hy])
    have sz9 := (unhide RV).lt.2
    have EN := hide (endedD ((unhide WV).b.trans (b9.mono (unhide WV).b.size)) (unhide R9) oy (by omega))
    have f0 := (unhide R9).free 0
    have f1 := (unhide R9).free 1
    have r0 := (unhide R9).c0
    have r1 := (unhide R9).c1
    clear b9 oy hy0 hy c0 c1 lt
    go_wp2
    refine bodyPost_ret (v := .tuple #[.agg #[.int .i64 y.room, .slice y.a y.ps.length y.c], .int .i64 3]) (by simp [results, Try.results50, go_sem, r0, r1]) rfl ?_
    rw [unhide E]
    exact ⟨y, unhide HY, rfl, (unhide EN).1, (unhide EN).2⟩
  | false =>
    have E := hide (show rr = ((x.room, putF x.ps (nm, p1, p2 ++ s)), 0) by rw [unhide RE, if_neg (by have := unhide HB; simpa using this)])
    have sr : (s.size : Int) ≤ x.room - sumZ x.ps := by have := unhide HB; simpa using this
    have c0 := (unhide WV).c0
    have c1 := (unhide WV).c1
    have lt := (unhide WV).lt
    clear hb HB RE
    go_wp2_with fail
    refine (iTable _ x (unhide WV).r (wf_names (unhide OK))).mono ?_
    rintro e u1 ⟨rfl, tt, b2⟩
    have S1 := hide (show St w u1 x (v.heap.size + 1) x.ps.length (tabOf x.ps) from ⟨(unhide WV).step b2, (unhide RV).below b2 (unhide RV).lt.2, tt, by omega, unhide XA⟩)
    have us1 := b2.size
    clear tt b2 WV RV c0 c1 lt
    have S2 := hide ((unhide S1).step (one_more u1 (.cells #[.int .i64 p0, .string p1, .string p2] 69)))
    have sc : p2.size + s.size ≤ 9223372036854775807 := by omega
    have c0 := (unhide S2).d.c0
    have c1 := (unhide S2).d.c1
    have lt := (unhide S2).d.lt
    go_wp2_with (first | (at_lookup; refine wp_look _ rfl _ _ rfl (v.heap.size + 1) _ _ rfl (unhide S1).t nm rfl (unhide WF) _ (unhide HP) ?_) | (at_mapUpdate; refine wp_put _ rfl _ _ _ rfl (v.heap.size + 1) _ _ rfl (unhide S2).t h20 nm (nm, p1, p2 ++ s) rfl rfl (unhide WF) ?_; intro u4 t4 g4; have S4 := hide ((unhide S2).turn t4 g4); clear t4 g4 c0 c1 lt; have c0 := (unhide S4).d.c0; have c1 := (unhide S4).d.c1; have lt := (unhide S4).d.lt) | fail)
    refine (iDisk _ (v.heap.size + 1) _ _ x.room (unhide S4).t).mono ?_
    rintro e u9 ⟨y, hy0, hy, rfl, oy, b9⟩
    have R9 := hide ((unhide S4).r.below b9 (unhide S4).r.lt.2)
    have HY := hide (show (y.room, y.ps) = (x.room, putF x.ps (nm, p1, p2 ++ s)) by rw [hy0, hy, unhide ROW])
    have sz9 := (unhide S4).r.lt.2
    have EN := hide (endedD ((unhide S4).d.b.trans (b9.mono (unhide S4).d.b.size)) (unhide R9) oy (by omega))
    have f0 := (unhide R9).free 0
    have f1 := (unhide R9).free 1
    have r0 := (unhide R9).c0
    have r1 := (unhide R9).c1
    clear b9 oy hy0 hy c0 c1 lt
    go_wp2
    refine bodyPost_ret (v := .tuple #[.agg #[.int .i64 y.room, .slice y.a y.ps.length y.c], .int .i64 0]) (by simp [results, Try.results50, go_sem, r0, r1]) rfl ?_
    rw [unhide E]
    exact ⟨y, unhide HY, rfl, (unhide EN).1, (unhide EN).2⟩
end Go.Proofs.Yticofefdbjihiaa.IAppend14
namespace Go.Proofs.Yticofefdbjihiaa.ILate15
open Go.ChangeShapes Go.WideShapes Go.ChangeAt Go.RowKit Fil14 OpensF14 DiskH14 DkH14 SDk14 SOk14 SRd14 SCom14 SAppend14 Conv15 SegP15 SSeg15 SLate15 ISg15
open SBytes (AtB)
open SSeal11 (sealB)
set_option maxRecDepth 100000 in
set_option maxHeartbeats 4000000 in
theorem iSegLate (w : World) (x : Dx) (seg : Int) (s : ByteArray) (hr : RdD w x) (hz : sumZ x.ps ≤ 1048576) (hs : s.size ≤ 1048576) (hw : TabF14.Wf seg) :
    Calls Try.prog 22 #[.agg #[.int .i64 x.room, .slice x.a x.ps.length x.c], .int .i64 seg, .string s] w (ToldD (lateD x.room x.ps seg s) w) := by
  have G0 := hide (begunD hr)
  have s2 : ((w.alloc (.cells #[.int .i64 x.room, .slice x.a x.ps.length x.c] 31)).alloc (.cells #[.int .i64 0, .slice none 0 0] 31)).heap.size = w.heap.size + 2 := by simp
  obtain ⟨cb, W3, hcb, CV, AB, s3, b3⟩ := to_bytes ((w.alloc (.cells #[.int .i64 x.room, .slice x.a x.ps.length x.c] 31)).alloc (.cells #[.int .i64 0, .slice none 0 0] 31)) s
  have W4 := hide ((unhide G0).1.step b3)
  have R4 := hide ((unhide G0).2.below b3 (by omega))
  rw [s2] at CV AB s3
  have SE := hide (ISeal11.iSeal W3 (w.heap.size + 2) cb (nums s) (by rw [nums_len]; exact hs) (by omega) AB)
  have RE := hide (show lateD x.room x.ps seg s = if s.size ≤ 9000 ∧ okS seg = true then appendD x.room x.ps seg (sealT s) else ((0, []), 1) from rfl)
  have AP := hide (fun u (h : RdD u x) hq => IAppend14.iDiskAppend u x seg (sealT s) h hz hq)
  have ET : sealT s = strOfNums (sealB (nums s)) := rfl
  have XL := hide (nums_len s)
  rw [ET] at AP RE
  generalize lateD x.room x.ps seg s = rr at *
  generalize appendD x.room x.ps seg (strOfNums (sealB (nums s))) = ra at *
  have NZ := hide (show s.size ≤ 9000 → (sealB (nums s)).length ≠ 0 by
    intro q
    have e : sealB (nums s) = SPut11.numB (nums s).length ++ nums s ++ SSeal11.four (SBytes.chkB (nums s)) := if_pos (by rw [nums_len]; exact q)
    rw [e]
    simp only [List.length_append]
    have := ISeal11.numB_some (nums s).length
    omega)
  generalize sealB (nums s) = sb at *
  generalize nums s = xs at *
  clear hr G0 AB b3 ET hcb
  go_enter Try.func22, Try.ntmps22
  go_wp2_with fail
  refine (unhide SE).mono ?_
  rintro e u ⟨a5, c, rfl, o5, b5⟩
  have CB := hide (fun (g : Nat) (h : a5 = some ⟨g, 0, none⟩) (o : ByteH.At u g sb) => of_bytes u g c sb o)
  have O5 := hide o5.either
  have SB := hide (show sb.length ≤ 9223372036854775807 by
    rcases o5.either with ⟨_, _, h⟩ | ⟨g, _, o⟩
    · rw [h]; simp
    · rcases o.2 with ⟨h1, _⟩ | ⟨g', c', cur, h1, h2, h3, h4, h5, h6⟩
      · simp at h1
      · unfold maxLen at h5
        omega)
  have W5 := hide ((unhide W4).step b5)
  have R5 := hide ((unhide R4).below b5 (unhide R4).lt.2)
  have us := b5.size
  clear o5 b5 CV SE W4 R4
  have c0 := (unhide W5).c0
  have c1 := (unhide W5).c1
  have lt := (unhide W5).lt
  by_cases q : s.size ≤ 9000
  case neg =>
    have E := hide (show rr = ((0, []), 1) by rw [unhide RE, if_neg (fun h => q h.1)])
    have EN := hide (endedD (y := ⟨0, none, 0, []⟩) (base0 := w.heap.size + 2) (unhide W5).b (unhide R5) ⟨rfl, .inl ⟨rfl, rfl⟩⟩ (by omega))
    have f0 := (unhide R5).free 0
    have f1 := (unhide R5).free 1
    have r0 := (unhide R5).c0
    have r1 := (unhide R5).c1
    have qd : decide (xs.length ≤ 9000) = false := decide_eq_false (by rw [unhide XL]; exact q)
    clear RE AP q CB O5 c0 c1 lt
    go_wp2
    refine bodyPost_ret (v := .tuple #[.agg #[.int .i64 0, .slice none 0 0], .int .i64 1]) (by simp [results, Try.results22, go_sem, r0, r1]) rfl ?_
    rw [unhide E]
    exact ⟨⟨0, none, 0, []⟩, rfl, rfl, (unhide EN).1, (unhide EN).2⟩
  have qd : decide (xs.length ≤ 9000) = true := decide_eq_true (by rw [unhide XL]; exact q)
  obtain ⟨g, rfl, og⟩ : ∃ g, a5 = some ⟨g, 0, none⟩ ∧ ByteH.At u g sb := by
    rcases unhide O5 with ⟨_, _, h⟩ | ⟨g, h, o⟩
    · have := (unhide NZ) q
      rw [h] at this
      simp at this
    · exact ⟨g, h, o.at⟩
  have CB := (unhide CB) g rfl og
  clear og O5 NZ
  cases sk : okS seg with
  | false =>
    have E := hide (show rr = ((0, []), 1) by rw [unhide RE, if_neg (fun h => by rw [sk] at h; simp at h)])
    have EN := hide (endedD (y := ⟨0, none, 0, []⟩) (base0 := w.heap.size + 2) (unhide W5).b (unhide R5) ⟨rfl, .inl ⟨rfl, rfl⟩⟩ (by omega))
    have f0 := (unhide R5).free 0
    have f1 := (unhide R5).free 1
    have r0 := (unhide R5).c0
    have r1 := (unhide R5).c1
    have SK := hide sk
    clear RE AP q CB sk c0 c1 lt
    go_wp2_with fail
    refine (iSegOk _ seg false (unhide SK)).mono ?_
    rintro e u ⟨rfl, rfl⟩
    go_wp2
    refine bodyPost_ret (v := .tuple #[.agg #[.int .i64 0, .slice none 0 0], .int .i64 1]) (by simp [results, Try.results22, go_sem, r0, r1]) rfl ?_
    rw [unhide E]
    exact ⟨⟨0, none, 0, []⟩, rfl, rfl, (unhide EN).1, (unhide EN).2⟩
  | true =>
    have E := hide (show rr = ra by rw [unhide RE, if_pos ⟨q, sk⟩])
    have SK := hide sk
    clear RE q sk
    go_wp2_with fail
    refine (iSegOk _ seg true (unhide SK)).mono ?_
    rintro e u ⟨rfl, rfl⟩
    go_wp2_with fail
    refine (unhide AP _ (unhide W5).r (by rw [strOfNums_size]; exact unhide SB)).mono ?_
    rintro e u9 ⟨y, hy, rfl, oy, b9⟩
    obtain ⟨rd, rc⟩ := ra
    have R9 := hide ((unhide R5).below b9 (unhide R5).lt.2)
    have HY := hide hy
    have EN := hide (endedD ((unhide W5).b.trans (b9.mono (unhide W5).b.size)) (unhide R9) oy (unhide R5).lt.2)
    have f0 := (unhide R9).free 0
    have f1 := (unhide R9).free 1
    have r0 := (unhide R9).c0
    have r1 := (unhide R9).c1
    clear b9 oy hy c0 c1 lt CB AP
    go_wp2
    refine bodyPost_ret (v := .tuple #[.agg #[.int .i64 y.room, .slice y.a y.ps.length y.c], .int .i64 rc]) (by simp [results, Try.results22, go_sem, r0, r1]) rfl ?_
    rw [unhide E]
    exact ⟨y, unhide HY, rfl, (unhide EN).1, (unhide EN).2⟩
end Go.Proofs.Yticofefdbjihiaa.ILate15
namespace Go.Proofs.Yticofefdbjihiaa.ISync14
open Go.ChangeShapes Go.WideShapes Go.ChangeAt Go.RowKit Fil14 OpensF14 DiskH14 DkH14 SDk14 SOk14 SRd14 App14 SLess14 SCopy14 SRef14 SCom14 SPut14 SSync14 TabF14 PTab14 IFile14 ITb14 ICp14 IDk14 ICom14
set_option maxRecDepth 100000 in
set_option maxHeartbeats 4000000 in
theorem iDiskSync (w : World) (x : Dx) (nm : Int) (hr : RdD w x) (hz : sumZ x.ps ≤ 1048576) : Calls Try.prog 45 #[.agg #[.int .i64 x.room, .slice x.a x.ps.length x.c], .int .i64 nm] w (ToldD (syncD x.room x.ps nm) w) := by
  have G0 := hide (begunD hr)
  have s2 : ((w.alloc (.cells #[.int .i64 x.room, .slice x.a x.ps.length x.c] 31)).alloc (.cells #[.int .i64 0, .slice none 0 0] 31)).heap.size = w.heap.size + 2 := by simp
  have OK0 := hide (fun b h => iOkB _ x b (unhide G0).1.r hz h)
  have N_nm := hide (fun u b h => iNameB u nm b h)
  have XA := hide (fun g e => (hr.r g e).1)
  have h20 := hr.n
  clear hr
  by_cases ok : OkD x.room x.ps
  case neg =>
    have E := hide (show syncD x.room x.ps nm = ((0, []), 1) by unfold syncD; rw [at_bad (fun h => ok h.1)]; rfl)
    generalize syncD x.room x.ps nm = rr at *
    have OKD := hide (decide_eq_false ok)
    clear ok
    go_enter Try.func45, Try.ntmps45
    go_wp2_with fail
    refine ((unhide OK0) false (unhide OKD)).mono ?_
    rintro e u ⟨rfl, b1⟩
    have R2 := hide ((unhide G0).2.below b1 (by omega))
    have WU := hide ((unhide G0).1.step b1)
    have us := b1.size
    rw [s2] at us
    clear b1 G0 OK0 s2
    have c0 := (unhide WU).c0
    have c1 := (unhide WU).c1
    have lt := (unhide WU).lt
    have EN := hide (endedD (y := ⟨0, none, 0, []⟩) (base0 := w.heap.size + 2) (unhide WU).b (unhide R2) ⟨rfl, .inl ⟨rfl, rfl⟩⟩ (by omega))
    have f0 := (unhide R2).free 0
    have f1 := (unhide R2).free 1
    have r0 := (unhide R2).c0
    have r1 := (unhide R2).c1
    clear c0 c1 lt
    go_wp2
    refine bodyPost_ret (v := .tuple #[.agg #[.int .i64 0, .slice none 0 0], .int .i64 1]) (by simp [results, Try.results45, go_sem, r0, r1]) rfl ?_
    rw [unhide E]
    exact ⟨⟨0, none, 0, []⟩, rfl, rfl, (unhide EN).1, (unhide EN).2⟩
  have OKD := hide (decide_eq_true ok)
  have OK := hide ok
  by_cases nk : okN nm = true
  case neg =>
    have E := hide (show syncD x.room x.ps nm = ((0, []), 1) by unfold syncD; rw [at_bad (fun h => nk h.2)]; rfl)
    generalize syncD x.room x.ps nm = rr at *
    have NK := hide (show okN nm = false by simpa using nk)
    clear ok nk
    go_enter Try.func45, Try.ntmps45
    go_wp2_with fail
    refine ((unhide OK0) true (unhide OKD)).mono ?_
    rintro e u ⟨rfl, b1⟩
    have R2 := hide ((unhide G0).2.below b1 (by omega))
    have WU := hide ((unhide G0).1.step b1)
    have us := b1.size
    rw [s2] at us
    clear b1 G0 OK0 s2
    have c0 := (unhide WU).c0
    have c1 := (unhide WU).c1
    have lt := (unhide WU).lt
    go_wp2_with fail
    refine ((unhide N_nm) _ false (unhide NK)).mono ?_
    rintro e u ⟨rfl, rfl⟩
    have EN := hide (endedD (y := ⟨0, none, 0, []⟩) (base0 := w.heap.size + 2) (unhide WU).b (unhide R2) ⟨rfl, .inl ⟨rfl, rfl⟩⟩ (by omega))
    have f0 := (unhide R2).free 0
    have f1 := (unhide R2).free 1
    have r0 := (unhide R2).c0
    have r1 := (unhide R2).c1
    clear c0 c1 lt
    go_wp2
    refine bodyPost_ret (v := .tuple #[.agg #[.int .i64 0, .slice none 0 0], .int .i64 1]) (by simp [results, Try.results45, go_sem, r0, r1]) rfl ?_
    rw [unhide E]
    exact ⟨⟨0, none, 0, []⟩, rfl, rfl, (unhide EN).1, (unhide EN).2⟩
  have NK := hide nk
  have WF := hide (wf_ok nk)
  have TL := hide (tl_ok ok)
  by_cases q : findF x.ps nm < 0
  case pos =>
    have E := hide (show syncD x.room x.ps nm = ((x.room, x.ps), 2) by unfold syncD; rw [at_none ok nk q]; rfl)
    generalize syncD x.room x.ps nm = rr at *
    have FN := tl_no (unhide TL) q
    have HP := hide (show (tabOf x.ps nm).getD z0 = (0, ByteArray.empty, ByteArray.empty) by rw [FN]; rfl)
    have HI := hide (show (tabOf x.ps nm).isSome = false by rw [FN]; rfl)
    clear ok nk q FN
    go_enter Try.func45, Try.ntmps45
    go_wp2_with fail
    refine ((unhide OK0) true (unhide OKD)).mono ?_
    rintro e u ⟨rfl, b1⟩
    have R2 := hide ((unhide G0).2.below b1 (by omega))
    have WU := hide ((unhide G0).1.step b1)
    have us := b1.size
    rw [s2] at us
    clear b1 G0 OK0 s2
    have c0 := (unhide WU).c0
    have c1 := (unhide WU).c1
    have lt := (unhide WU).lt
    go_wp2_with fail
    refine ((unhide N_nm) _ true (unhide NK)).mono ?_
    rintro e u ⟨rfl, rfl⟩
    go_wp2_with fail
    refine (iTable _ x (unhide WU).r (wf_names (unhide OK))).mono ?_
    rintro e u1 ⟨rfl, tt, b2⟩
    have S1 := hide (show St w u1 x (u.heap.size + 1) x.ps.length (tabOf x.ps) from ⟨(unhide WU).step b2, (unhide R2).below b2 (unhide R2).lt.2, tt, by omega, unhide XA⟩)
    have us1 := b2.size
    clear tt b2 WU R2 c0 c1 lt
    have S2 := hide ((unhide S1).step (one_more u1 (.cells #[.int .i64 0, .string ByteArray.empty, .string ByteArray.empty] 69)))
    have c0 := (unhide S2).d.c0
    have c1 := (unhide S2).d.c1
    have lt := (unhide S2).d.lt
    go_wp2_with (first | (at_lookup; refine wp_have _ rfl _ _ rfl (u.heap.size + 1) _ _ rfl (unhide S1).t nm rfl (unhide WF) _ false (unhide HP) (unhide HI) ?_) | fail)
    refine (iCopied _ x (unhide S2).d.r).mono ?_
    rintro e u9 ⟨y, hy0, hy, rfl, oy, b9⟩
    have R9 := hide ((unhide S2).r.below b9 (unhide S2).r.lt.2)
    have HY := hide (show (y.room, y.ps) = (x.room, x.ps) by rw [hy0, hy])
    have sz9 := (unhide S2).r.lt.2
    have EN := hide (endedD ((unhide S2).d.b.trans (b9.mono (unhide S2).d.b.size)) (unhide R9) oy (by omega))
    have f0 := (unhide R9).free 0
    have f1 := (unhide R9).free 1
    have r0 := (unhide R9).c0
    have r1 := (unhide R9).c1
    clear b9 oy hy0 hy c0 c1 lt
    go_wp2
    refine bodyPost_ret (v := .tuple #[.agg #[.int .i64 y.room, .slice y.a y.ps.length y.c], .int .i64 2]) (by simp [results, Try.results45, go_sem, r0, r1]) rfl ?_
    rw [unhide E]
    exact ⟨y, unhide HY, rfl, (unhide EN).1, (unhide EN).2⟩
  obtain ⟨k, ek, kl, en⟩ := findF_in (ps := x.ps) (nm := nm) (by omega)
  have E := hide (show syncD x.room x.ps nm = ((x.room, putF x.ps (nm, bytesAt x.ps k, ByteArray.empty)), 0) by unfold syncD; rw [at_yes ok nk ek]; rfl)
  generalize syncD x.room x.ps nm = rr at *
  have ROW := hide (tl_row (tl_put (unhide TL) (nm, bytesAt x.ps k, ByteArray.empty) (Pure14.ok_named.1 nk)))
  have BY : bytesAt x.ps k = (elF x.ps k).2.1 ++ (elF x.ps k).2.2 := rfl
  have FY := tl_yes (unhide TL) kl en
  have SZ := hide (el_size hz kl)
  have HP := hide (show (tabOf x.ps nm).getD z0 = ((elF x.ps k).1, (elF x.ps k).2.1, (elF x.ps k).2.2) by rw [FY]; rfl)
  have HI := hide (show (tabOf x.ps nm).isSome = true by rw [FY]; rfl)
  rw [BY] at ROW E
  clear ok nk q FY BY ek en TL
  generalize (elF x.ps k).1 = p0 at *
  generalize (elF x.ps k).2.1 = p1 at *
  generalize (elF x.ps k).2.2 = p2 at *
  clear kl
  go_enter Try.func45, Try.ntmps45
  go_wp2_with fail
  refine ((unhide OK0) true (unhide OKD)).mono ?_
  rintro e u ⟨rfl, b1⟩
  have R2 := hide ((unhide G0).2.below b1 (by omega))
  have WU := hide ((unhide G0).1.step b1)
  have us := b1.size
  rw [s2] at us
  clear b1 G0 OK0 s2
  have c0 := (unhide WU).c0
  have c1 := (unhide WU).c1
  have lt := (unhide WU).lt
  go_wp2_with fail
  refine ((unhide N_nm) _ true (unhide NK)).mono ?_
  rintro e u ⟨rfl, rfl⟩
  go_wp2_with fail
  refine (iTable _ x (unhide WU).r (wf_names (unhide OK))).mono ?_
  rintro e u1 ⟨rfl, tt, b2⟩
  have S1 := hide (show St w u1 x (u.heap.size + 1) x.ps.length (tabOf x.ps) from ⟨(unhide WU).step b2, (unhide R2).below b2 (unhide R2).lt.2, tt, by omega, unhide XA⟩)
  have us1 := b2.size
  clear tt b2 WU R2 c0 c1 lt
  have S2 := hide ((unhide S1).step (one_more u1 (.cells #[.int .i64 p0, .string p1, .string p2] 69)))
  have c0 := (unhide S2).d.c0
  have c1 := (unhide S2).d.c1
  have lt := (unhide S2).d.lt
  go_wp2_with (first | (at_lookup; refine wp_have _ rfl _ _ rfl (u.heap.size + 1) _ _ rfl (unhide S1).t nm rfl (unhide WF) _ true (unhide HP) (unhide HI) ?_) | fail)
  refine (iText _ p0 p1 p2 (unhide SZ)).mono ?_
  rintro e u3 ⟨rfl, b3⟩
  have S3 := hide ((unhide S2).step b3)
  clear b3 c0 c1 lt S1
  have c0 := (unhide S3).d.c0
  have c1 := (unhide S3).d.c1
  have lt := (unhide S3).d.lt
  go_wp2_with (first | (at_mapUpdate; refine wp_put _ rfl _ _ _ rfl (u.heap.size + 1) _ _ rfl (unhide S3).t h20 nm (nm, p1 ++ p2, ByteArray.empty) rfl rfl (unhide WF) ?_; intro u4 t4 g4; have S4 := hide ((unhide S3).turn t4 g4); clear t4 g4 c0 c1 lt; have c0 := (unhide S4).d.c0; have c1 := (unhide S4).d.c1; have lt := (unhide S4).d.lt) | fail)
  refine (iDisk _ (u.heap.size + 1) _ _ x.room (unhide S4).t).mono ?_
  rintro e u9 ⟨y, hy0, hy, rfl, oy, b9⟩
  have R9 := hide ((unhide S4).r.below b9 (unhide S4).r.lt.2)
  have HY := hide (show (y.room, y.ps) = (x.room, putF x.ps (nm, p1 ++ p2, ByteArray.empty)) by rw [hy0, hy, unhide ROW])
  have sz9 := (unhide S4).r.lt.2
  have EN := hide (endedD ((unhide S4).d.b.trans (b9.mono (unhide S4).d.b.size)) (unhide R9) oy (by omega))
  have f0 := (unhide R9).free 0
  have f1 := (unhide R9).free 1
  have r0 := (unhide R9).c0
  have r1 := (unhide R9).c1
  clear b9 oy hy0 hy c0 c1 lt
  go_wp2
  refine bodyPost_ret (v := .tuple #[.agg #[.int .i64 y.room, .slice y.a y.ps.length y.c], .int .i64 0]) (by simp [results, Try.results45, go_sem, r0, r1]) rfl ?_
  rw [unhide E]
  exact ⟨y, unhide HY, rfl, (unhide EN).1, (unhide EN).2⟩
end Go.Proofs.Yticofefdbjihiaa.ISync14
namespace Go.Proofs.Yticofefdbjihiaa.IAdd15
open Go.ChangeShapes Go.WideShapes Go.ChangeAt Go.RowKit Fil14 OpensF14 DiskH14 DkH14 SDk14 SOk14 SRd14 SCom14 SAppend14 SSync14 Conv15 SegP15 SSeg15 SLate15 SAdd15
set_option maxRecDepth 100000 in
set_option maxHeartbeats 4000000 in
theorem iSegAdd (w : World) (x : Dx) (seg : Int) (s : ByteArray) (hr : RdD w x) (hz : sumZ x.ps ≤ 1048576) (hs : s.size ≤ 1048576) (hw : TabF14.Wf seg) :
    Calls Try.prog 19 #[.agg #[.int .i64 x.room, .slice x.a x.ps.length x.c], .int .i64 seg, .string s] w (ToldD (addD x.room x.ps seg s) w) := by
  have G0 := hide (begunD hr)
  have s2 : ((w.alloc (.cells #[.int .i64 x.room, .slice x.a x.ps.length x.c] 31)).alloc (.cells #[.int .i64 0, .slice none 0 0] 31)).heap.size = w.heap.size + 2 := by simp
  have LA := hide (fun u (h : RdD u x) => ILate15.iSegLate u x seg s h hz hs hw)
  have RE := hide (show addD x.room x.ps seg s = if (lateD x.room x.ps seg s).2 = 0 then syncD (lateD x.room x.ps seg s).1.1 (lateD x.room x.ps seg s).1.2 seg else lateD x.room x.ps seg s from rfl)
  have OK := hide (ok_late (room := x.room) (ps := x.ps) (seg := seg) (s := s))
  generalize addD x.room x.ps seg s = rr at *
  generalize lateD x.room x.ps seg s = la at *
  obtain ⟨⟨lr, lp⟩, lc⟩ := la
  clear hr
  go_enter Try.func19, Try.ntmps19
  go_wp2_with fail
  refine (unhide LA _ (unhide G0).1.r).mono ?_
  rintro e u ⟨y, hy, rfl, oy, b1⟩
  have e1 : y.room = lr := (Prod.ext_iff.1 hy).1
  have e2 : y.ps = lp := (Prod.ext_iff.1 hy).2
  subst e1 e2
  have W1 := hide ((unhide G0).1.step b1)
  have R1 := hide ((unhide G0).2.below b1 (by omega))
  have us := b1.size
  rw [s2] at oy us
  clear b1 G0 LA s2
  have bA := one_more u (.cells #[.int .i64 y.room, .slice y.a y.ps.length y.c] 31)
  have W2 := hide ((unhide W1).step bA)
  have R2 := hide ((unhide R1).below bA (unhide R1).lt.2)
  have O2 := hide (oy.step bA)
  clear bA oy W1 R1
  by_cases q : lc = 0
  case neg =>
    have E := hide (show rr = ((y.room, y.ps), lc) by rw [unhide RE, if_neg q])
    have qb : (lc != 0) = true := by simpa using q
    have EN := hide (endedD (unhide W2).b (unhide R2) (unhide O2) (by omega))
    have f0 := (unhide R2).free 0
    have f1 := (unhide R2).free 1
    have r0 := (unhide R2).c0
    have r1 := (unhide R2).c1
    clear RE OK q
    go_wp2
    refine bodyPost_ret (v := .tuple #[.agg #[.int .i64 y.room, .slice y.a y.ps.length y.c], .int .i64 lc]) (by simp [results, Try.results19, go_sem, r0, r1]) rfl ?_
    rw [unhide E]
    exact ⟨y, rfl, rfl, (unhide EN).1, (unhide EN).2⟩
  subst q
  have ok := (unhide OK) rfl
  try simp only at ok
  have E := hide (show rr = syncD y.room y.ps seg by rw [unhide RE, if_pos rfl])
  have SY := hide (fun u (h : RdD u y) => ISync14.iDiskSync u y seg h (by have := ok.2.2.1; have := ok.1.2; omega))
  have l22 := ok.2.1
  generalize syncD y.room y.ps seg = rs at *
  clear RE OK ok
  go_wp2_with fail
  refine (unhide SY _ ((unhide O2).rd (by omega))).mono ?_
  rintro e u9 ⟨z, hz', rfl, oz, b9⟩
  obtain ⟨rd, rc⟩ := rs
  have R9 := hide ((unhide R2).below b9 (unhide R2).lt.2)
  have HZ := hide hz'
  have EN := hide (endedD ((unhide W2).b.trans (b9.mono (unhide W2).b.size)) (unhide R9) oz (unhide R2).lt.2)
  have f0 := (unhide R9).free 0
  have f1 := (unhide R9).free 1
  have r0 := (unhide R9).c0
  have r1 := (unhide R9).c1
  clear b9 oz hz' SY
  go_wp2
  refine bodyPost_ret (v := .tuple #[.agg #[.int .i64 z.room, .slice z.a z.ps.length z.c], .int .i64 rc]) (by simp [results, Try.results19, go_sem, r0, r1]) rfl ?_
  rw [unhide E]
  exact ⟨z, unhide HZ, rfl, (unhide EN).1, (unhide EN).2⟩
end Go.Proofs.Yticofefdbjihiaa.IAdd15
namespace Go.Proofs.Yticofefdbjihiaa.ICut14
open Go.ChangeShapes Go.WideShapes Go.ChangeAt Go.RowKit Fil14 OpensF14 DiskH14 DkH14 SDk14 SOk14 SRd14 App14 SLess14 SCopy14 SRef14 SCom14 SPut14 SCut14 TabF14 PTab14 IFile14 ITb14 ICp14 IDk14 ICom14
set_option maxRecDepth 100000 in
set_option maxHeartbeats 4000000 in
theorem iDiskCut (w : World) (x : Dx) (nm n : Int) (hr : RdD w x) (hz : sumZ x.ps ≤ 1048576) : Calls Try.prog 52 #[.agg #[.int .i64 x.room, .slice x.a x.ps.length x.c], .int .i64 nm, .int .i64 n] w (ToldD (cutD x.room x.ps nm n) w) := by
  have G0 := hide (begunD hr)
  have s2 : ((w.alloc (.cells #[.int .i64 x.room, .slice x.a x.ps.length x.c] 31)).alloc (.cells #[.int .i64 0, .slice none 0 0] 31)).heap.size = w.heap.size + 2 := by simp
  have OK0 := hide (fun b h => iOkB _ x b (unhide G0).1.r hz h)
  have N_nm := hide (fun u b h => iNameB u nm b h)
  have XA := hide (fun g e => (hr.r g e).1)
  have h20 := hr.n
  clear hr
  by_cases ok : OkD x.room x.ps
  case neg =>
    have E := hide (show cutD x.room x.ps nm n = ((0, []), 1) by unfold cutD; rw [at_bad (fun h => ok h.1)]; rfl)
    generalize cutD x.room x.ps nm n = rr at *
    have OKD := hide (decide_eq_false ok)
    clear ok
    go_enter Try.func52, Try.ntmps52
    go_wp2_with fail
    refine ((unhide OK0) false (unhide OKD)).mono ?_
    rintro e u ⟨rfl, b1⟩
    have R2 := hide ((unhide G0).2.below b1 (by omega))
    have WU := hide ((unhide G0).1.step b1)
    have us := b1.size
    rw [s2] at us
    clear b1 G0 OK0 s2
    have c0 := (unhide WU).c0
    have c1 := (unhide WU).c1
    have lt := (unhide WU).lt
    have EN := hide (endedD (y := ⟨0, none, 0, []⟩) (base0 := w.heap.size + 2) (unhide WU).b (unhide R2) ⟨rfl, .inl ⟨rfl, rfl⟩⟩ (by omega))
    have f0 := (unhide R2).free 0
    have f1 := (unhide R2).free 1
    have r0 := (unhide R2).c0
    have r1 := (unhide R2).c1
    clear c0 c1 lt
    go_wp2
    refine bodyPost_ret (v := .tuple #[.agg #[.int .i64 0, .slice none 0 0], .int .i64 1]) (by simp [results, Try.results52, go_sem, r0, r1]) rfl ?_
    rw [unhide E]
    exact ⟨⟨0, none, 0, []⟩, rfl, rfl, (unhide EN).1, (unhide EN).2⟩
  have OKD := hide (decide_eq_true ok)
  have OK := hide ok
  by_cases nk : okN nm = true
  case neg =>
    have E := hide (show cutD x.room x.ps nm n = ((0, []), 1) by unfold cutD; rw [at_bad (fun h => nk h.2)]; rfl)
    generalize cutD x.room x.ps nm n = rr at *
    have NK := hide (show okN nm = false by simpa using nk)
    clear ok nk
    go_enter Try.func52, Try.ntmps52
    go_wp2_with fail
    refine ((unhide OK0) true (unhide OKD)).mono ?_
    rintro e u ⟨rfl, b1⟩
    have R2 := hide ((unhide G0).2.below b1 (by omega))
    have WU := hide ((unhide G0).1.step b1)
    have us := b1.size
    rw [s2] at us
    clear b1 G0 OK0 s2
    have c0 := (unhide WU).c0
    have c1 := (unhide WU).c1
    have lt := (unhide WU).lt
    go_wp2_with fail
    refine ((unhide N_nm) _ false (unhide NK)).mono ?_
    rintro e u ⟨rfl, rfl⟩
    have EN := hide (endedD (y := ⟨0, none, 0, []⟩) (base0 := w.heap.size + 2) (unhide WU).b (unhide R2) ⟨rfl, .inl ⟨rfl, rfl⟩⟩ (by omega))
    have f0 := (unhide R2).free 0
    have f1 := (unhide R2).free 1
    have r0 := (unhide R2).c0
    have r1 := (unhide R2).c1
    clear c0 c1 lt
    go_wp2
    refine bodyPost_ret (v := .tuple #[.agg #[.int .i64 0, .slice none 0 0], .int .i64 1]) (by simp [results, Try.results52, go_sem, r0, r1]) rfl ?_
    rw [unhide E]
    exact ⟨⟨0, none, 0, []⟩, rfl, rfl, (unhide EN).1, (unhide EN).2⟩
  have NK := hide nk
  have WF := hide (wf_ok nk)
  have TL := hide (tl_ok ok)
  by_cases q : findF x.ps nm < 0
  case pos =>
    have E := hide (show cutD x.room x.ps nm n = ((x.room, x.ps), 2) by unfold cutD; rw [at_none ok nk q]; rfl)
    generalize cutD x.room x.ps nm n = rr at *
    have FN := tl_no (unhide TL) q
    have HP := hide (show (tabOf x.ps nm).getD z0 = (0, ByteArray.empty, ByteArray.empty) by rw [FN]; rfl)
    have HI := hide (show (tabOf x.ps nm).isSome = false by rw [FN]; rfl)
    clear ok nk q FN
    go_enter Try.func52, Try.ntmps52
    go_wp2_with fail
    refine ((unhide OK0) true (unhide OKD)).mono ?_
    rintro e u ⟨rfl, b1⟩
    have R2 := hide ((unhide G0).2.below b1 (by omega))
    have WU := hide ((unhide G0).1.step b1)
    have us := b1.size
    rw [s2] at us
    clear b1 G0 OK0 s2
    have c0 := (unhide WU).c0
    have c1 := (unhide WU).c1
    have lt := (unhide WU).lt
    go_wp2_with fail
    refine ((unhide N_nm) _ true (unhide NK)).mono ?_
    rintro e u ⟨rfl, rfl⟩
    go_wp2_with fail
    refine (iTable _ x (unhide WU).r (wf_names (unhide OK))).mono ?_
    rintro e u1 ⟨rfl, tt, b2⟩
    have S1 := hide (show St w u1 x (u.heap.size + 1) x.ps.length (tabOf x.ps) from ⟨(unhide WU).step b2, (unhide R2).below b2 (unhide R2).lt.2, tt, by omega, unhide XA⟩)
    have us1 := b2.size
    clear tt b2 WU R2 c0 c1 lt
    have S2 := hide ((unhide S1).step (one_more u1 (.cells #[.int .i64 0, .string ByteArray.empty, .string ByteArray.empty] 69)))
    have c0 := (unhide S2).d.c0
    have c1 := (unhide S2).d.c1
    have lt := (unhide S2).d.lt
    go_wp2_with (first | (at_lookup; refine wp_have _ rfl _ _ rfl (u.heap.size + 1) _ _ rfl (unhide S1).t nm rfl (unhide WF) _ false (unhide HP) (unhide HI) ?_) | fail)
    refine (iCopied _ x (unhide S2).d.r).mono ?_
    rintro e u9 ⟨y, hy0, hy, rfl, oy, b9⟩
    have R9 := hide ((unhide S2).r.below b9 (unhide S2).r.lt.2)
    have HY := hide (show (y.room, y.ps) = (x.room, x.ps) by rw [hy0, hy])
    have sz9 := (unhide S2).r.lt.2
    have EN := hide (endedD ((unhide S2).d.b.trans (b9.mono (unhide S2).d.b.size)) (unhide R9) oy (by omega))
    have f0 := (unhide R9).free 0
    have f1 := (unhide R9).free 1
    have r0 := (unhide R9).c0
    have r1 := (unhide R9).c1
    clear b9 oy hy0 hy c0 c1 lt
    go_wp2
    refine bodyPost_ret (v := .tuple #[.agg #[.int .i64 y.room, .slice y.a y.ps.length y.c], .int .i64 2]) (by simp [results, Try.results52, go_sem, r0, r1]) rfl ?_
    rw [unhide E]
    exact ⟨y, unhide HY, rfl, (unhide EN).1, (unhide EN).2⟩
  obtain ⟨k, ek, kl, en⟩ := findF_in (ps := x.ps) (nm := nm) (by omega)
  have BS : ((bytesAt x.ps k).size : Int) = (elF x.ps k).2.1.size + (elF x.ps k).2.2.size := by unfold bytesAt; rw [ByteArray.size_append]; omega
  have RE := hide (show cutD x.room x.ps nm n = if 0 ≤ n ∧ n ≤ ((elF x.ps k).2.1.size : Int) + (elF x.ps k).2.2.size then ((x.room, putF x.ps (nm, (bytesAt x.ps k).extract 0 n.toNat, ByteArray.empty)), 0) else ((x.room, x.ps), 2) by unfold cutD; rw [at_yes ok nk ek]; simp only [Int.toNat_natCast]; rw [← BS]; rfl)
  generalize cutD x.room x.ps nm n = rr at *
  have ROW := hide (tl_row (tl_put (unhide TL) (nm, (bytesAt x.ps k).extract 0 n.toNat, ByteArray.empty) (Pure14.ok_named.1 nk)))
  have BY : bytesAt x.ps k = (elF x.ps k).2.1 ++ (elF x.ps k).2.2 := rfl
  have FY := tl_yes (unhide TL) kl en
  have SZ := hide (el_size hz kl)
  have HP := hide (show (tabOf x.ps nm).getD z0 = ((elF x.ps k).1, (elF x.ps k).2.1, (elF x.ps k).2.2) by rw [FY]; rfl)
  have HI := hide (show (tabOf x.ps nm).isSome = true by rw [FY]; rfl)
  rw [BY] at ROW RE
  clear ok nk q FY BY BS ek en TL
  generalize (elF x.ps k).1 = p0 at *
  generalize (elF x.ps k).2.1 = p1 at *
  generalize (elF x.ps k).2.2 = p2 at *
  clear kl
  by_cases n0 : n < 0
  case pos =>
    have E := hide (show rr = ((x.room, x.ps), 2) by rw [unhide RE, if_neg (by omega)])
    clear RE ROW
    go_enter Try.func52, Try.ntmps52
    go_wp2_with fail
    refine ((unhide OK0) true (unhide OKD)).mono ?_
    rintro e u ⟨rfl, b1⟩
    have R2 := hide ((unhide G0).2.below b1 (by omega))
    have WU := hide ((unhide G0).1.step b1)
    have us := b1.size
    rw [s2] at us
    clear b1 G0 OK0 s2
    have c0 := (unhide WU).c0
    have c1 := (unhide WU).c1
    have lt := (unhide WU).lt
    go_wp2_with fail
    refine ((unhide N_nm) _ true (unhide NK)).mono ?_
    rintro e u ⟨rfl, rfl⟩
    go_wp2_with fail
    refine (iTable _ x (unhide WU).r (wf_names (unhide OK))).mono ?_
    rintro e u1 ⟨rfl, tt, b2⟩
    have S1 := hide (show St w u1 x (u.heap.size + 1) x.ps.length (tabOf x.ps) from ⟨(unhide WU).step b2, (unhide R2).below b2 (unhide R2).lt.2, tt, by omega, unhide XA⟩)
    have us1 := b2.size
    clear tt b2 WU R2 c0 c1 lt
    have S2 := hide ((unhide S1).step (one_more u1 (.cells #[.int .i64 p0, .string p1, .string p2] 69)))
    have c0 := (unhide S2).d.c0
    have c1 := (unhide S2).d.c1
    have lt := (unhide S2).d.lt
    go_wp2_with (first | (at_lookup; refine wp_have _ rfl _ _ rfl (u.heap.size + 1) _ _ rfl (unhide S1).t nm rfl (unhide WF) _ true (unhide HP) (unhide HI) ?_) | fail)
    refine (iCopied _ x (unhide S2).d.r).mono ?_
    rintro e u9 ⟨y, hy0, hy, rfl, oy, b9⟩
    have R9 := hide ((unhide S2).r.below b9 (unhide S2).r.lt.2)
    have HY := hide (show (y.room, y.ps) = (x.room, x.ps) by rw [hy0, hy])
    have sz9 := (unhide S2).r.lt.2
    have EN := hide (endedD ((unhide S2).d.b.trans (b9.mono (unhide S2).d.b.size)) (unhide R9) oy (by omega))
    have f0 := (unhide R9).free 0
    have f1 := (unhide R9).free 1
    have r0 := (unhide R9).c0
    have r1 := (unhide R9).c1
    clear b9 oy hy0 hy c0 c1 lt
    go_wp2
    refine bodyPost_ret (v := .tuple #[.agg #[.int .i64 y.room, .slice y.a y.ps.length y.c], .int .i64 2]) (by simp [results, Try.results52, go_sem, r0, r1]) rfl ?_
    rw [unhide E]
    exact ⟨y, unhide HY, rfl, (unhide EN).1, (unhide EN).2⟩
  have d0 : decide (n < 0) = false := decide_eq_false n0
  by_cases n1 : n > (p1.size : Int) + p2.size
  case pos =>
    have E := hide (show rr = ((x.room, x.ps), 2) by rw [unhide RE, if_neg (by omega)])
    clear RE ROW n0
    go_enter Try.func52, Try.ntmps52
    go_wp2_with fail
    refine ((unhide OK0) true (unhide OKD)).mono ?_
    rintro e u ⟨rfl, b1⟩
    have R2 := hide ((unhide G0).2.below b1 (by omega))
    have WU := hide ((unhide G0).1.step b1)
    have us := b1.size
    rw [s2] at us
    clear b1 G0 OK0 s2
    have c0 := (unhide WU).c0
    have c1 := (unhide WU).c1
    have lt := (unhide WU).lt
    go_wp2_with fail
    refine ((unhide N_nm) _ true (unhide NK)).mono ?_
    rintro e u ⟨rfl, rfl⟩
    go_wp2_with fail
    refine (iTable _ x (unhide WU).r (wf_names (unhide OK))).mono ?_
    rintro e u1 ⟨rfl, tt, b2⟩
    have S1 := hide (show St w u1 x (u.heap.size + 1) x.ps.length (tabOf x.ps) from ⟨(unhide WU).step b2, (unhide R2).below b2 (unhide R2).lt.2, tt, by omega, unhide XA⟩)
    have us1 := b2.size
    clear tt b2 WU R2 c0 c1 lt
    have S2 := hide ((unhide S1).step (one_more u1 (.cells #[.int .i64 p0, .string p1, .string p2] 69)))
    have c0 := (unhide S2).d.c0
    have c1 := (unhide S2).d.c1
    have lt := (unhide S2).d.lt
    go_wp2_with (first | (at_lookup; refine wp_have _ rfl _ _ rfl (u.heap.size + 1) _ _ rfl (unhide S1).t nm rfl (unhide WF) _ true (unhide HP) (unhide HI) ?_) | fail)
    refine (iSizeF _ p0 p1 p2 (unhide SZ)).mono ?_
    rintro e u3 ⟨rfl, b3⟩
    have S3 := hide ((unhide S2).step b3)
    clear b3 c0 c1 lt S1
    have c0 := (unhide S3).d.c0
    have c1 := (unhide S3).d.c1
    have lt := (unhide S3).d.lt
    go_wp2_with fail
    refine (iCopied _ x (unhide S3).d.r).mono ?_
    rintro e u9 ⟨y, hy0, hy, rfl, oy, b9⟩
    have R9 := hide ((unhide S3).r.below b9 (unhide S3).r.lt.2)
    have HY := hide (show (y.room, y.ps) = (x.room, x.ps) by rw [hy0, hy])
    have sz9 := (unhide S3).r.lt.2
    have EN := hide (endedD ((unhide S3).d.b.trans (b9.mono (unhide S3).d.b.size)) (unhide R9) oy (by omega))
    have f0 := (unhide R9).free 0
    have f1 := (unhide R9).free 1
    have r0 := (unhide R9).c0
    have r1 := (unhide R9).c1
    clear b9 oy hy0 hy c0 c1 lt
    go_wp2
    refine bodyPost_ret (v := .tuple #[.agg #[.int .i64 y.room, .slice y.a y.ps.length y.c], .int .i64 2]) (by simp [results, Try.results52, go_sem, r0, r1]) rfl ?_
    rw [unhide E]
    exact ⟨y, unhide HY, rfl, (unhide EN).1, (unhide EN).2⟩
  have d1 : decide (n > (p1.size : Int) + p2.size) = false := decide_eq_false n1
  have E := hide (show rr = ((x.room, putF x.ps (nm, (p1 ++ p2).extract 0 n.toNat, ByteArray.empty)), 0) by rw [unhide RE, if_pos (by omega)])
  obtain ⟨m, rfl⟩ : ∃ m : Nat, n = m := ⟨n.toNat, by omega⟩
  have ms : (m : Int) ≤ ((p1 ++ p2).size : Int) := by rw [ByteArray.size_append]; omega
  have MS := hide ms
  simp only [Int.toNat_natCast] at E ROW
  clear RE n0 n1 ms
  go_enter Try.func52, Try.ntmps52
  go_wp2_with fail
  refine ((unhide OK0) true (unhide OKD)).mono ?_
  rintro e u ⟨rfl, b1⟩
  have R2 := hide ((unhide G0).2.below b1 (by omega))
  have WU := hide ((unhide G0).1.step b1)
  have us := b1.size
  rw [s2] at us
  clear b1 G0 OK0 s2
  have c0 := (unhide WU).c0
  have c1 := (unhide WU).c1
  have lt := (unhide WU).lt
  go_wp2_with fail
  refine ((unhide N_nm) _ true (unhide NK)).mono ?_
  rintro e u ⟨rfl, rfl⟩
  go_wp2_with fail
  refine (iTable _ x (unhide WU).r (wf_names (unhide OK))).mono ?_
  rintro e u1 ⟨rfl, tt, b2⟩
  have S1 := hide (show St w u1 x (u.heap.size + 1) x.ps.length (tabOf x.ps) from ⟨(unhide WU).step b2, (unhide R2).below b2 (unhide R2).lt.2, tt, by omega, unhide XA⟩)
  have us1 := b2.size
  clear tt b2 WU R2 c0 c1 lt
  have S2 := hide ((unhide S1).step (one_more u1 (.cells #[.int .i64 p0, .string p1, .string p2] 69)))
  have c0 := (unhide S2).d.c0
  have c1 := (unhide S2).d.c1
  have lt := (unhide S2).d.lt
  go_wp2_with (first | (at_lookup; refine wp_have _ rfl _ _ rfl (u.heap.size + 1) _ _ rfl (unhide S1).t nm rfl (unhide WF) _ true (unhide HP) (unhide HI) ?_) | fail)
  refine (iSizeF _ p0 p1 p2 (unhide SZ)).mono ?_
  rintro e u3 ⟨rfl, b3⟩
  have S3 := hide ((unhide S2).step b3)
  have F0 := (b3.cell (p := ⟨u1.heap.size, 0, none⟩) (show u1.heap.size < (u1.alloc (.cells #[.int .i64 p0, .string p1, .string p2] 69)).heap.size by simp)).trans (show (u1.alloc (.cells #[.int .i64 p0, .string p1, .string p2] 69)).cell? ⟨u1.heap.size, 0, none⟩ = some (.int .i64 p0) by simp [go_sem])
  have F1 := (b3.cell (p := ⟨u1.heap.size, 1, none⟩) (show u1.heap.size < (u1.alloc (.cells #[.int .i64 p0, .string p1, .string p2] 69)).heap.size by simp)).trans (show (u1.alloc (.cells #[.int .i64 p0, .string p1, .string p2] 69)).cell? ⟨u1.heap.size, 1, none⟩ = some (.string p1) by simp [go_sem])
  have F2 := (b3.cell (p := ⟨u1.heap.size, 2, none⟩) (show u1.heap.size < (u1.alloc (.cells #[.int .i64 p0, .string p1, .string p2] 69)).heap.size by simp)).trans (show (u1.alloc (.cells #[.int .i64 p0, .string p1, .string p2] 69)).cell? ⟨u1.heap.size, 2, none⟩ = some (.string p2) by simp [go_sem])
  clear b3 c0 c1 lt S1
  have c0 := (unhide S3).d.c0
  have c1 := (unhide S3).d.c1
  have lt := (unhide S3).d.lt
  go_wp2_with fail
  refine (iText _ p0 p1 p2 (unhide SZ)).mono ?_
  rintro e u5 ⟨rfl, b5⟩
  have S5 := hide ((unhide S3).step b5)
  have ms := unhide MS
  clear b5 c0 c1 lt F0 F1 F2
  generalize p1 ++ p2 = tx at *
  have c0 := (unhide S5).d.c0
  have c1 := (unhide S5).d.c1
  have lt := (unhide S5).d.lt
  go_wp2_with (first | (at_mapUpdate; refine wp_put _ rfl _ _ _ rfl (u.heap.size + 1) _ _ rfl (unhide S5).t h20 nm (nm, tx.extract 0 m, ByteArray.empty) rfl rfl (unhide WF) ?_; intro u4 t4 g4; have S4 := hide ((unhide S5).turn t4 g4); clear t4 g4 c0 c1 lt; have c0 := (unhide S4).d.c0; have c1 := (unhide S4).d.c1; have lt := (unhide S4).d.lt) | fail)
  refine (iDisk _ (u.heap.size + 1) _ _ x.room (unhide S4).t).mono ?_
  rintro e u9 ⟨y, hy0, hy, rfl, oy, b9⟩
  have R9 := hide ((unhide S4).r.below b9 (unhide S4).r.lt.2)
  have HY := hide (show (y.room, y.ps) = (x.room, putF x.ps (nm, tx.extract 0 m, ByteArray.empty)) by rw [hy0, hy, unhide ROW])
  have sz9 := (unhide S4).r.lt.2
  have EN := hide (endedD ((unhide S4).d.b.trans (b9.mono (unhide S4).d.b.size)) (unhide R9) oy (by omega))
  have f0 := (unhide R9).free 0
  have f1 := (unhide R9).free 1
  have r0 := (unhide R9).c0
  have r1 := (unhide R9).c1
  clear b9 oy hy0 hy c0 c1 lt
  go_wp2
  refine bodyPost_ret (v := .tuple #[.agg #[.int .i64 y.room, .slice y.a y.ps.length y.c], .int .i64 0]) (by simp [results, Try.results52, go_sem, r0, r1]) rfl ?_
  rw [unhide E]
  exact ⟨y, unhide HY, rfl, (unhide EN).1, (unhide EN).2⟩
end Go.Proofs.Yticofefdbjihiaa.ICut14
namespace Go.Proofs.Yticofefdbjihiaa.IMend15
open Go.ChangeShapes Go.WideShapes Go.ChangeAt Go.RowKit Fil14 OpensF14 DiskH14 DkH14 SDk14 SOk14 SRd14 SCom14 SCut14 Conv15 SegP15 SSeg15 SMend15 ISg15
set_option maxRecDepth 100000 in
set_option maxHeartbeats 4000000 in
theorem iSegMend (w : World) (x : Dx) (seg : Int) (hr : RdD w x) (hz : sumZ x.ps ≤ 1048576) (hw : TabF14.Wf seg) :
    Calls Try.prog 24 #[.agg #[.int .i64 x.room, .slice x.a x.ps.length x.c], .int .i64 seg] w (ToldD (mendD x.room x.ps seg) w) := by
  have G0 := hide (begunD hr)
  have s2 : ((w.alloc (.cells #[.int .i64 x.room, .slice x.a x.ps.length x.c] 31)).alloc (.cells #[.int .i64 0, .slice none 0 0] 31)).heap.size = w.heap.size + 2 := by simp
  have SR := hide (fun u (h : RdD u x) => ISeg15.iSegRead u x seg h hz hw)
  have CU := hide (fun u (h : RdD u x) => ICut14.iDiskCut u x seg (segD x.room x.ps seg).2 h hz)
  have RE := hide (show mendD x.room x.ps seg = if okS seg = true then cutD x.room x.ps seg (segD x.room x.ps seg).2 else ((0, []), 1) from rfl)
  generalize mendD x.room x.ps seg = rr at *
  generalize cutD x.room x.ps seg (segD x.room x.ps seg).2 = rc at *
  generalize segD x.room x.ps seg = sg at *
  obtain ⟨sl, sn⟩ := sg
  obtain ⟨rd, cc⟩ := rc
  clear hr
  cases sk : okS seg with
  | false =>
    have E := hide (show rr = ((0, []), 1) by rw [unhide RE, if_neg (by rw [sk]; simp)])
    have SK := hide sk
    clear RE sk
    go_enter Try.func24, Try.ntmps24
    go_wp2_with fail
    generalize (w.alloc (.cells #[.int .i64 x.room, .slice x.a x.ps.length x.c] 31)).alloc (.cells #[.int .i64 0, .slice none 0 0] 31) = W at *
    refine (iSegOk _ seg false (unhide SK)).mono ?_
    rintro e u ⟨rfl, rfl⟩
    have R2 := hide (unhide G0).2
    have EN := hide (endedD (y := ⟨0, none, 0, []⟩) (base0 := w.heap.size + 2) (unhide G0).1.b (unhide R2) ⟨rfl, .inl ⟨rfl, rfl⟩⟩ (by omega))
    have f0 := (unhide R2).free 0
    have f1 := (unhide R2).free 1
    have r0 := (unhide R2).c0
    have r1 := (unhide R2).c1
    go_wp2
    refine bodyPost_ret (v := .tuple #[.agg #[.int .i64 0, .slice none 0 0], .int .i64 1]) (by simp [results, Try.results24, go_sem, r0, r1]) rfl ?_
    rw [unhide E]
    exact ⟨⟨0, none, 0, []⟩, rfl, rfl, (unhide EN).1, (unhide EN).2⟩
  | true =>
    have E := hide (show rr = (rd, cc) by rw [unhide RE, if_pos sk])
    have SK := hide sk
    clear RE sk
    go_enter Try.func24, Try.ntmps24
    go_wp2_with fail
    generalize (w.alloc (.cells #[.int .i64 x.room, .slice x.a x.ps.length x.c] 31)).alloc (.cells #[.int .i64 0, .slice none 0 0] 31) = W at *
    refine (iSegOk _ seg true (unhide SK)).mono ?_
    rintro e u ⟨rfl, rfl⟩
    have c0 := (unhide G0).1.c0
    have c1 := (unhide G0).1.c1
    have lt := (unhide G0).1.lt
    go_wp2_with fail
    refine (unhide SR _ (unhide G0).1.r).mono ?_
    rintro e u1 ⟨a1, c, rfl, _, b1⟩
    have W1 := hide ((unhide G0).1.step b1)
    have R1 := hide ((unhide G0).2.below b1 (unhide G0).2.lt.2)
    clear b1 c0 c1 lt G0 SR
    have c0 := (unhide W1).c0
    have c1 := (unhide W1).c1
    have lt := (unhide W1).lt
    go_wp2_with fail
    refine (unhide CU _ (unhide W1).r).mono ?_
    rintro e u9 ⟨z, hz', rfl, oz, b9⟩
    have R9 := hide ((unhide R1).below b9 (unhide R1).lt.2)
    have HZ := hide hz'
    have EN := hide (endedD ((unhide W1).b.trans (b9.mono (unhide W1).b.size)) (unhide R9) oz (unhide R1).lt.2)
    have f0 := (unhide R9).free 0
    have f1 := (unhide R9).free 1
    have r0 := (unhide R9).c0
    have r1 := (unhide R9).c1
    clear b9 oz hz' c0 c1 lt
    go_wp2
    refine bodyPost_ret (v := .tuple #[.agg #[.int .i64 z.room, .slice z.a z.ps.length z.c], .int .i64 cc]) (by simp [results, Try.results24, go_sem, r0, r1]) rfl ?_
    rw [unhide E]
    exact ⟨z, unhide HZ, rfl, (unhide EN).1, (unhide EN).2⟩
end Go.Proofs.Yticofefdbjihiaa.IMend15
namespace Go.Proofs.Yticofefdbjihiaa.IFrom15
open Go.ChangeShapes Go.WideShapes Go.ChangeAt Go.RowKit Fil14 OpensF14 DiskH14 DkH14 SDk14 SOk14 SRd14 SegP15 SSeg15 SFrom15 ISg15 TabF14 PTab14 ITb14 ICom14
open App14 (kcell)
open SLess14 (grow_low)
theorem iBehind (w : World) (n : Int) (h : 0 ≤ n ∧ n ≤ 19) : Calls Try.prog 58 #[.int .i64 n] w fun e w' => e = .returned (.int .i64 ((n + 1) % 20)) ∧ w' = w := by
  have a1 : wrap64 (n + 1) = n + 1 := by rw [wrap64]; omega
  have E : wrap64 ((n + 1).tmod 20) = (n + 1) % 20 := by rw [Int.tmod_eq_emod_of_nonneg (by omega), wrap64]; omega
  go_enter Try.func58, Try.ntmps58
  go_wp2
  go_ret
  exact ⟨by first | rfl | (congr 2; first | exact E | (rw [Int.tmod_eq_emod_of_nonneg (by omega)])), rfl⟩
/-- A table that nothing was written into, where a list of the call's own has grown. -/
theorem tab_grown {wr wz : World} {B n g : Nat} {f : Int → Option TF} (h : Tf wr B n f) (k : wr.grownBy wz (some g)) (ne : B ≠ g) : Tf wz B n f := h.kept k (by simpa using ne)
set_option maxRecDepth 100000 in
set_option maxHeartbeats 4000000 in
theorem iSegsFrom (w : World) (x : Dx) (s : Int) (hr : RdD w x) (hz : sumZ x.ps ≤ 1048576) (hw : TabF14.Wf s) : Calls Try.prog 26 #[.agg #[.int .i64 x.room, .slice x.a x.ps.length x.c], .int .i64 s] w fun e w' => ∃ a c, e = .returned (.slice a (fromD x.room x.ps s).length c) ∧ VOI.Ob w' w.heap.size a (fromD x.room x.ps s).length c (fromD x.room x.ps s) ∧ Below w.heap.size w w' := by
  have F : ∀ W1, W1 = w.alloc (.cells #[.int .i64 x.room, .slice x.a x.ps.length x.c] 31) → ∀ W2, W2 = W1.alloc (.cells #[] 3) → Wd w W2 x ∧ Ints.Own W2 w.heap.size (w.heap.size + 1) 0 0 [] ∧ W2.heap.size = w.heap.size + 2 := by
    intro W1 h1 W2 h2
    have s1 : W1.heap.size = w.heap.size + 1 := by rw [h1]; simp
    have s2 : W2.heap.size = w.heap.size + 2 := by rw [h2]; simp [s1]
    have d1 : Wd w W1 x := by rw [h1]; exact Wd.made hr _
    have b2 : Below W1.heap.size W1 W2 := by rw [h2]; exact one_more _ _
    have o : Ints.Own (W1.alloc (.cells #[] 3)) w.heap.size W1.heap.size 0 0 [] := World.ownsRow_lit W1 #[] 0 (by omega) (by decide) rfl
    rw [s1, ← h2] at o
    exact ⟨d1.step b2, o, s2⟩
  have G0 := hide (F _ rfl _ rfl)
  have OK0 := hide (fun u b (h : RdD u x) e => iOkB u x b h hz e)
  have RE := hide (show fromD x.room x.ps s = if OkD x.room x.ps ∧ okS s = true then (fromS x.ps s 20).1 else [] from rfl)
  generalize fromD x.room x.ps s = rr at *
  clear F hr
  by_cases ok : OkD x.room x.ps
  case neg =>
    obtain rfl : rr = [] := by rw [unhide RE, if_neg (fun h => ok h.1)]
    have OKD := hide (decide_eq_false ok)
    clear RE ok
    go_enter Try.func26, Try.ntmps26
    go_wp2_with fail
    generalize (w.alloc (.cells #[.int .i64 x.room, .slice x.a x.ps.length x.c] 31)).alloc (.cells #[] 3) = W at *
    refine (unhide OK0 _ false (unhide G0).1.r (unhide OKD)).mono ?_
    rintro e u ⟨rfl, b1⟩
    have OU := hide ((unhide G0).2.1.below b1 (by have := (unhide G0).2.2; omega))
    have WU := hide ((unhide G0).1.step b1)
    clear b1
    go_wp2
    go_ret
    exact ⟨some ⟨w.heap.size + 1, 0, none⟩, 0, rfl, .of (unhide OU), (unhide WU).b⟩
  have OKD := hide (decide_eq_true ok)
  have OK := hide ok
  cases sk : okS s with
  | false =>
    obtain rfl : rr = [] := by rw [unhide RE, if_neg (fun h => by rw [sk] at h; simp at h)]
    have SK := hide sk
    clear RE sk ok
    go_enter Try.func26, Try.ntmps26
    go_wp2_with fail
    generalize (w.alloc (.cells #[.int .i64 x.room, .slice x.a x.ps.length x.c] 31)).alloc (.cells #[] 3) = W at *
    refine (unhide OK0 _ true (unhide G0).1.r (unhide OKD)).mono ?_
    rintro e u ⟨rfl, b1⟩
    have OU := hide ((unhide G0).2.1.below b1 (by have := (unhide G0).2.2; omega))
    have WU := hide ((unhide G0).1.step b1)
    clear b1
    go_wp2_with fail
    refine (iSegOk _ s false (unhide SK)).mono ?_
    rintro e u ⟨rfl, rfl⟩
    go_wp2
    go_ret
    exact ⟨some ⟨w.heap.size + 1, 0, none⟩, 0, rfl, .of (unhide OU), (unhide WU).b⟩
  | true =>
    have RR := hide (show rr = (fromS x.ps s 20).1 by rw [unhide RE, if_pos ⟨ok, sk⟩])
    have SK := hide sk
    have s19 : 0 ≤ s ∧ s ≤ 19 := of_decide_eq_true sk
    have S0 := hide (show fromS x.ps s 0 = ([], s, true) from rfl)
    have TL := hide (tl_ok ok)
    have LK := hide (show ∀ p, (findF x.ps p < 0 ∧ tabOf x.ps p = none) ∨ (0 ≤ findF x.ps p ∧ ∃ q : TF, tabOf x.ps p = some q) from fun p => by
      by_cases q : findF x.ps p < 0
      · exact .inl ⟨q, tl_no (unhide TL) q⟩
      · obtain ⟨k, ek, kl, en⟩ := findF_in (ps := x.ps) (nm := p) (by omega)
        exact .inr ⟨by omega, _, tl_yes (unhide TL) kl en⟩)
    clear RE sk ok TL
    go_enter Try.func26, Try.ntmps26
    go_wp2_with fail
    generalize (w.alloc (.cells #[.int .i64 x.room, .slice x.a x.ps.length x.c] 31)).alloc (.cells #[] 3) = W at *
    refine (unhide OK0 _ true (unhide G0).1.r (unhide OKD)).mono ?_
    rintro e u ⟨rfl, b1⟩
    have OU := hide ((unhide G0).2.1.below b1 (by have := (unhide G0).2.2; omega))
    have WU := hide ((unhide G0).1.step b1)
    have us := b1.size
    rw [(unhide G0).2.2] at us
    clear b1 OK0 G0
    go_wp2_with fail
    refine (iSegOk _ s true (unhide SK)).mono ?_
    rintro e u ⟨rfl, rfl⟩
    have c0 := (unhide WU).c0
    have c1 := (unhide WU).c1
    have lt := (unhide WU).lt
    go_wp2_with fail
    refine (iTable _ x (unhide WU).r (wf_names (unhide OK))).mono ?_
    rintro e u1 ⟨rfl, tt, b2⟩
    have O1 := hide ((unhide OU).below b2 (unhide OU).lt.2)
    have T1 := hide tt
    have B1 := hide ((unhide WU).b.trans (b2.mono (unhide WU).b.size))
    clear tt b2 OU WU c0 c1 lt
    have TB : w.heap.size + 1 < u.heap.size + 1 := by omega
    generalize u.heap.size + 1 = B at *
    clear us
    go_wp2
    go_loopw [5, 7, 23] (fun o f i wr => ∃ (j g c : Nat) (l : List Int) (p : Int), o = .slice (some ⟨g, 0, none⟩) j c ∧ f = .int .i64 p ∧ i = .int .i64 j ∧ j ≤ 20 ∧ 0 ≤ p ∧ p ≤ 19 ∧ g ≠ B ∧ Hid (fromS x.ps s j = (l, p, true)) ∧ Hid (Ints.Own wr w.heap.size g j c l) ∧ Hid (Tf wr B x.ps.length (tabOf x.ps)) ∧ Hid (Below w.heap.size w wr)) (fun o _ _ _ => 20 - (match o with | .slice _ n _ => n | _ => 0))
    case atStart => exact ⟨0, w.heap.size + 1, 0, [], s, rfl, rfl, rfl, by omega, s19.1, s19.2, by omega, S0, O1, T1, B1⟩
    case round =>
      clear S0 O1 T1 B1 s19
      obtain ⟨j, g, c, l, p, rfl, rfl, rfl, hj, p0, p1, gn, HS, HO, HT, HB⟩ := hrel
      by_cases j6 : j < 20
      case neg =>
        have jb : decide ((j : Int) < 20) = false := decide_eq_false (by omega)
        have E := hide (show rr = l ∧ l.length = j by
          refine ⟨?_, fromS_all (unhide HS)⟩
          obtain rfl : j = 20 := by omega
          rw [unhide RR, unhide HS])
        clear j6
        go_wp2
        go_ret
        rw [(unhide E).1]
        exact ⟨some ⟨g, 0, none⟩, c, by rw [(unhide E).2]; rfl, .of (by rw [(unhide E).2]; exact unhide HO), unhide HB⟩
      have jb : (j : Int) < 20 := by omega
      have WF := hide (wf_low (n := p) ⟨p0, by omega⟩)
      rcases unhide LK p with ⟨fz, en⟩ | ⟨fz, q, ey⟩
      · have E := hide (show rr = l ∧ l.length = j from ⟨by rw [unhide RR, fromS_end j6 (unhide HS) (by omega)], fromS_all (unhide HS)⟩)
        have HP := hide (show (tabOf x.ps p).getD z0 = (0, ByteArray.empty, ByteArray.empty) by rw [en]; rfl)
        have HI := hide (show (tabOf x.ps p).isSome = false by rw [en]; rfl)
        have LB := one_more wr (.cells #[.int .i64 0, .string ByteArray.empty, .string ByteArray.empty] 69)
        have OL := hide ((unhide HO).below LB (unhide HO).lt.2)
        have BL := hide ((unhide HB).trans (LB.mono (unhide HB).size))
        clear LB fz en
        go_wp2_with (first | (at_lookup; refine wp_have _ rfl _ _ rfl B _ _ rfl (unhide HT) p rfl (unhide WF) _ false (unhide HP) (unhide HI) ?_) | fail)
        go_ret
        rw [(unhide E).1]
        exact ⟨some ⟨g, 0, none⟩, c, by rw [(unhide E).2]; rfl, .of (by rw [(unhide E).2]; exact unhide OL), unhide BL⟩
      · have NS := hide (fromS_go (unhide HS) fz)
        obtain ⟨q0, q1, q2⟩ := q
        have HP := hide (show (tabOf x.ps p).getD z0 = (q0, q1, q2) by rw [ey]; rfl)
        have HI := hide (show (tabOf x.ps p).isSome = true by rw [ey]; rfl)
        have LB0 := one_more wr (.cells #[.int .i64 q0, .string q1, .string q2] 69)
        have sz0 : (wr.alloc (.cells #[.int .i64 q0, .string q1, .string q2] 69)).heap.size = wr.heap.size + 1 := by simp
        generalize hW4 : wr.alloc (.cells #[.int .i64 q0, .string q1, .string q2] 69) = w4 at *
        have LB := one_more w4 (.cells #[.int .i64 p] 3)
        have OL := hide (((unhide HO).below LB0 (unhide HO).lt.2).below LB (by have := (unhide HO).lt.2; omega))
        have TT := hide (((unhide HT).below LB0).below LB)
        have BL := hide (((unhide HB).trans (LB0.mono (unhide HB).size)).trans (LB.mono (by have := (unhide HB).size; omega)))
        have gB := (unhide HT).lt
        have gl := (unhide HO).lt
        have CL := hide (show (w4.alloc (.cells #[.int .i64 p] 3)).cell? ⟨wr.heap.size + 1, 0, none⟩ = some (.int .i64 p) by rw [← sz0]; simp)
        subst hW4
        clear LB LB0 fz ey
        go_wp2_with (first | (at_lookup; refine wp_have _ rfl _ _ rfl B _ _ rfl (unhide HT) p rfl (unhide WF) _ true (unhide HP) (unhide HI) ?_) | (at_builtin; refine wp_appI _ rfl _ _ rfl w.heap.size g j c l (wr.heap.size + 1) p rfl rfl (unhide OL) (unhide CL) (by omega) (unhide BL).size ?_; intro g9 c9 w9 o9 gr9 loc; have LC := hide loc; have O9 := hide o9; have G9 := hide gr9; clear loc o9 gr9) | fail)
        refine (iBehind _ p ⟨p0, p1⟩).mono ?_
        rintro e w9 ⟨rfl, rfl⟩
        go_wp2
        go_roundw
        case rel =>
          have gn9 : g9 ≠ B := by
            rcases unhide LC with q | q
            · omega
            · simp at q
              omega
          exact ⟨j + 1, g9, c9, l ++ [p], (p + 1) % 20, rfl, rfl, by go_num, by omega, by omega, by omega, gn9, NS, O9, hide (tab_grown (unhide TT) (unhide G9) (fun e => gn e.symm)), hide (grow_low (unhide BL) (unhide G9) ⟨gl.1, (unhide BL).size⟩)⟩
        case measure => simp; omega
end Go.Proofs.Yticofefdbjihiaa.IFrom15
namespace Go.Proofs.Yticofefdbjihiaa.IClear15
open Go.ChangeShapes Go.WideShapes Go.ChangeAt Go.RowKit Fil14 OpensF14 DiskH14 DkH14 SDk14 SOk14 SRd14 SCom14 SegP15 SClear15 Pure14 TabF14 PTab14 ITb14 ICp14 IDk14 ICom14
/-- The files that stay when the first k segments have been asked for. -/
def clrN (ps : List TF) (ks : List Int) (k : Int) : List TF := ps.filter (fun p => !decide (0 ≤ p.1 ∧ p.1 < k) || ks.contains p.1)
theorem clr_zero (ps : List TF) (ks : List Int) : clrN ps ks 0 = ps := by
  unfold clrN
  rw [List.filter_eq_self]
  intro p _
  have : decide (0 ≤ p.1 ∧ p.1 < 0) = false := decide_eq_false (by omega)
  rw [this]
  rfl
theorem clr_all (ps : List TF) (ks : List Int) : clrN ps ks 20 = ps.filter (stays ks) := by
  unfold clrN
  congr 1
  funext p
  unfold stays okS
  have : decide (0 ≤ p.1 ∧ p.1 < 20) = decide (0 ≤ p.1 ∧ p.1 ≤ 19) := decide_eq_decide.2 (by omega)
  rw [this]
theorem clr_tl {f : Int → Option TF} {ps : List TF} (ks : List Int) {k k' : Int} (h : Tl f (clrN ps ks k)) (g : Int → Option TF) (hf : ∀ j q, g j = some q ↔ q ∈ clrN ps ks k' ∧ q.1 = j) (ha : Asc ps) (hn : Named ps) : Tl g (clrN ps ks k') :=
  ⟨List.Pairwise.filter _ ha, fun p hp => hn p (List.mem_filter.1 hp).1, hf⟩
theorem clr_next {f : Int → Option TF} {ps : List TF} {ks : List Int} {k : Int} (ha : Asc ps) (hn : Named ps) (hk : 0 ≤ k) (h : Tl f (clrN ps ks k)) (b : ks.contains k = false) : Tl (upd f k none) (clrN ps ks (k + 1)) := by
  refine clr_tl ks h _ (fun j q => ?_) ha hn
  unfold upd
  by_cases e : j = k
  · rw [if_pos e]
    refine ⟨fun q => by simp at q, fun ⟨m, e2⟩ => ?_⟩
    have m2 := (List.mem_filter.1 m).2
    have e3 : q.1 = k := e2.trans e
    simp only [e3, b] at m2
    have : decide (0 ≤ k ∧ k < k + 1) = true := decide_eq_true (by omega)
    rw [this] at m2
    simp at m2
  · rw [if_neg e, h.iff]
    unfold clrN
    rw [List.mem_filter, List.mem_filter]
    constructor
    · rintro ⟨⟨m, t⟩, e2⟩
      refine ⟨⟨m, ?_⟩, e2⟩
      rw [show decide (0 ≤ q.1 ∧ q.1 < k + 1) = decide (0 ≤ q.1 ∧ q.1 < k) from decide_eq_decide.2 (by omega)]
      exact t
    · rintro ⟨⟨m, t⟩, e2⟩
      refine ⟨⟨m, ?_⟩, e2⟩
      rw [show decide (0 ≤ q.1 ∧ q.1 < k) = decide (0 ≤ q.1 ∧ q.1 < k + 1) from decide_eq_decide.2 (by omega)]
      exact t
theorem clr_keep {f : Int → Option TF} {ps : List TF} {ks : List Int} {k : Int} (ha : Asc ps) (hn : Named ps) (h : Tl f (clrN ps ks k)) (b : ks.contains k = true) : Tl f (clrN ps ks (k + 1)) := by
  have e : clrN ps ks (k + 1) = clrN ps ks k := by
    unfold clrN
    congr 1
    funext p
    by_cases e : p.1 = k
    · rw [e, b]
      simp
    · rw [show decide (0 ≤ p.1 ∧ p.1 < k + 1) = decide (0 ≤ p.1 ∧ p.1 < k) from decide_eq_decide.2 (by omega)]
  rw [e]
  exact h
set_option maxRecDepth 100000 in
theorem iIndexI (w : World) (g n cap : Nat) (xs : List Int) (x : Int) (b : Bool) (hl : xs.length = n) (h20 : n ≤ 1048576) (h : Ints.At w g xs) (hb : xs.contains x = b) :
    Calls Try.prog 85 #[.slice (some ⟨g, 0, none⟩) n cap, .int .i64 x] w fun e w' => ∃ r : Int, decide (r ≥ 0) = b ∧ e = .returned (.int .i64 r) ∧ w' = w := by
  have IFF : ∀ k, k < n → xs.getD k 0 = x → b = true := fun k hk e => by
    rw [← hb, List.contains_iff_mem, ← e]
    have : k < xs.length := by omega
    simp only [List.getD, List.getElem?_eq_getElem this, Option.getD_some]
    exact List.getElem_mem this
  have NO : (∀ k, k < n → xs.getD k 0 ≠ x) → b = false := fun q => by
    rw [← hb]
    cases e : xs.contains x with
    | false => rfl
    | true =>
      rw [List.contains_iff_mem] at e
      obtain ⟨i, hi, e⟩ := List.getElem_of_mem e
      exact absurd (by simp [List.getD, hi, e]) (q i (by omega))
  have HI := hide IFF
  have HN := hide NO
  have HA := hide h
  clear IFF NO h hb
  go_enter Try.func85, Try.ntmps85
  go_wp2
  go_loop [8] (fun j => ∃ (k : Nat), k ≤ n ∧ j = .int .i64 k ∧ Hid (∀ i, i < k → xs.getD i 0 ≠ x)) (fun j => n - (intOf j).toNat)
  case atStart => exact ⟨0, by omega, rfl, hide (fun i hi => by omega)⟩
  case round =>
    obtain ⟨k, hk, rfl, HG⟩ := hrel
    by_cases t : k < n
    · have e1 := (unhide HA) k (by omega)
      have YES := hide ((unhide HI) k t)
      have GO := hide (show xs.getD k 0 ≠ x → ∀ i, i < k + 1 → xs.getD i 0 ≠ x from fun hn i hi => by
        by_cases e : i = k
        · subst e; exact hn
        · exact (unhide HG) i (by omega))
      generalize xs.getD k 0 = y at *
      by_cases c1 : y = x
      · obtain rfl : b = true := (unhide YES) c1
        clear YES GO
        subst c1
        go_wp2
        go_ret
        exact ⟨k, by first | (exact decide_eq_true (by omega)) | (simp; done) | omega, rfl, rfl⟩
      · have G := hide ((unhide GO) c1)
        have c1b : (x == y) = false := by simpa using fun e => c1 e.symm
        clear YES GO
        go_wp2
        go_round
        case rel => exact ⟨k + 1, by omega, by go_num, G⟩
        case measure => simp [intOf]; omega
    · obtain rfl : k = n := by omega
      obtain rfl : b = false := (unhide HN) (unhide HG)
      go_wp2
      go_ret
      exact ⟨-1, by decide, rfl, rfl⟩
theorem iContains (w : World) (g n cap : Nat) (xs : List Int) (x : Int) (b : Bool) (hl : xs.length = n) (h20 : n ≤ 1048576) (h : Ints.At w g xs) (hb : xs.contains x = b) :
    Calls Try.prog 60 #[.slice (some ⟨g, 0, none⟩) n cap, .int .i64 x] w fun e w' => e = .returned (.bool b) ∧ w' = w := by
  have IX := hide (fun u => iIndexI u g n cap xs x b hl h20)
  have HA := hide h
  have HB := hide hb
  clear h hb hl
  go_enter Try.func60, Try.ntmps60
  go_wp2_with fail
  refine (unhide IX _ (unhide HA) (unhide HB)).mono ?_
  rintro e u ⟨r, hr, rfl, rfl⟩
  go_wp2
  go_ret
  exact ⟨by rw [← hr]; rfl, rfl⟩
set_option maxRecDepth 100000 in
set_option maxHeartbeats 4000000 in
theorem iSegsClear (w : World) (x : Dx) (gk ck : Nat) (ks : List Int) (hr : RdD w x) (hz : sumZ x.ps ≤ 1048576) (hg : gk < w.heap.size) (hk20 : ks.length ≤ 1048576) (ha : Ints.At w gk ks) :
    Calls Try.prog 32 #[.agg #[.int .i64 x.room, .slice x.a x.ps.length x.c], .slice (some ⟨gk, 0, none⟩) ks.length ck] w fun e w' => ∃ y : Dx, (y.room, y.ps) = clearD x.room x.ps ks ∧ e = .returned (.agg #[.int .i64 y.room, .slice y.a y.ps.length y.c]) ∧ OwD w' w.heap.size y ∧ Below w.heap.size w w' := by
  have G0 := hide (begunD hr)
  have s2 : ((w.alloc (.cells #[.int .i64 x.room, .slice x.a x.ps.length x.c] 31)).alloc (.cells #[.int .i64 0, .slice none 0 0] 31)).heap.size = w.heap.size + 2 := by simp
  have OK0 := hide (fun b h => iOkB _ x b (unhide G0).1.r hz h)
  have XA := hide (fun g e => (hr.r g e).1)
  have AK0 := hide ha
  have h20 := hr.n
  clear hr ha
  by_cases ok : OkD x.room x.ps
  case neg =>
    have E := hide (show clearD x.room x.ps ks = (0, []) by unfold clearD; rw [if_neg (fun h => ok h.1)])
    generalize clearD x.room x.ps ks = rr at *
    have OKD := hide (decide_eq_false ok)
    clear ok
    go_enter Try.func32, Try.ntmps32
    go_wp2_with fail
    refine ((unhide OK0) false (unhide OKD)).mono ?_
    rintro e u ⟨rfl, b1⟩
    have R2 := hide ((unhide G0).2.below b1 (by omega))
    have WU := hide ((unhide G0).1.step b1)
    have us := b1.size
    rw [s2] at us
    clear b1 G0 OK0 s2
    have EN := hide (endedD (y := ⟨0, none, 0, []⟩) (base0 := w.heap.size + 2) (unhide WU).b (unhide R2) ⟨rfl, .inl ⟨rfl, rfl⟩⟩ (by omega))
    have f0 := (unhide R2).free 0
    have f1 := (unhide R2).free 1
    have r0 := (unhide R2).c0
    have r1 := (unhide R2).c1
    go_wp2
    refine bodyPost_ret (v := .agg #[.int .i64 0, .slice none 0 0]) (by simp [results, Try.results32, go_sem, r0, r1]) rfl ?_
    rw [unhide E]
    exact ⟨⟨0, none, 0, []⟩, rfl, rfl, (unhide EN).1, (unhide EN).2⟩
  have OKD := hide (decide_eq_true ok)
  have OK := hide ok
  by_cases hk : ks.length ≤ 20
  case neg =>
    have E := hide (show clearD x.room x.ps ks = (0, []) by unfold clearD; rw [if_neg (fun h => hk h.2)])
    have kd : (ks.length : Int) > 20 := by omega
    generalize clearD x.room x.ps ks = rr at *
    clear ok hk
    go_enter Try.func32, Try.ntmps32
    go_wp2_with fail
    refine ((unhide OK0) true (unhide OKD)).mono ?_
    rintro e u ⟨rfl, b1⟩
    have R2 := hide ((unhide G0).2.below b1 (by omega))
    have WU := hide ((unhide G0).1.step b1)
    have us := b1.size
    rw [s2] at us
    clear b1 G0 OK0 s2
    have EN := hide (endedD (y := ⟨0, none, 0, []⟩) (base0 := w.heap.size + 2) (unhide WU).b (unhide R2) ⟨rfl, .inl ⟨rfl, rfl⟩⟩ (by omega))
    have f0 := (unhide R2).free 0
    have f1 := (unhide R2).free 1
    have r0 := (unhide R2).c0
    have r1 := (unhide R2).c1
    go_wp2
    refine bodyPost_ret (v := .agg #[.int .i64 0, .slice none 0 0]) (by simp [results, Try.results32, go_sem, r0, r1]) rfl ?_
    rw [unhide E]
    exact ⟨⟨0, none, 0, []⟩, rfl, rfl, (unhide EN).1, (unhide EN).2⟩
  have E := hide (show clearD x.room x.ps ks = (x.room, x.ps.filter (stays ks)) by unfold clearD; rw [if_pos ⟨ok, hk⟩])
  have AN := hide (asc_of ok)
  have TL0 := hide (show Tl (tabOf x.ps) (clrN x.ps ks 0) by rw [clr_zero]; exact tl_ok ok)
  have kd : ¬ (ks.length : Int) > 20 := by omega
  generalize clearD x.room x.ps ks = rr at *
  clear ok hk
  go_enter Try.func32, Try.ntmps32
  go_wp2_with fail
  refine ((unhide OK0) true (unhide OKD)).mono ?_
  rintro e u ⟨rfl, b1⟩
  have R2 := hide ((unhide G0).2.below b1 (by omega))
  have AK1 := hide (show Ints.At u gk ks from fun i hi => (((unhide G0).1.b.trans (b1.mono (by omega))).cell (p := ⟨gk, i, none⟩) hg).trans ((unhide AK0) i hi))
  have WU := hide ((unhide G0).1.step b1)
  have us := b1.size
  rw [s2] at us
  clear b1 G0 OK0 s2 AK0
  have c0 := (unhide WU).c0
  have c1 := (unhide WU).c1
  have lt := (unhide WU).lt
  go_wp2_with fail
  refine (iTable _ x (unhide WU).r (wf_names (unhide OK))).mono ?_
  rintro e u1 ⟨rfl, tt, b2⟩
  have S1 := hide (show St w u1 x (u.heap.size + 1) x.ps.length (tabOf x.ps) from ⟨(unhide WU).step b2, (unhide R2).below b2 (unhide R2).lt.2, tt, by omega, unhide XA⟩)
  have AK2 := hide (show Ints.At u1 gk ks from fun i hi => (b2.cell (p := ⟨gk, i, none⟩) (by show gk < u.heap.size; omega)).trans ((unhide AK1) i hi))
  have us1 := b2.size
  clear tt b2 WU R2 c0 c1 lt AK1
  have gB : gk < u.heap.size + 1 := by omega
  have wB : w.heap.size + 2 ≤ u.heap.size + 1 := by omega
  generalize u.heap.size + 1 = B at *
  clear us us1
  go_wp2
  go_loopw [18] (fun i wr => ∃ (k : Nat) (f : Int → Option TF), k ≤ 20 ∧ i = .int .i64 k ∧ Hid (Tl f (clrN x.ps ks k)) ∧ Hid (St w wr x B x.ps.length f) ∧ Hid (Ints.At wr gk ks)) (fun i _ => 20 - (intOf i).toNat)
  case atStart => exact ⟨0, tabOf x.ps, by omega, rfl, TL0, S1, AK2⟩
  case round =>
    clear S1 AK2 TL0
    obtain ⟨k, f, hk, rfl, HL, HS, HA⟩ := hrel
    by_cases t : k < 20
    · have tb : (k : Int) < 20 := by omega
      have gl : gk < wr.heap.size := by have := (unhide HS).t.lt; omega
      have WF := hide (wf_low (n := (k : Int)) ⟨by omega, by omega⟩)
      obtain ⟨b, hb⟩ : ∃ b, ks.contains (k : Int) = b := ⟨_, rfl⟩
      have HB := hide hb
      clear hb
      go_wp2_with fail
      refine (iContains wr gk ks.length ck ks k b rfl hk20 (unhide HA) (unhide HB)).mono ?_
      rintro e wr ⟨rfl, rfl⟩
      cases b with
      | true =>
        have HL9 := hide (clr_keep (unhide AN).1 (unhide AN).2 (unhide HL) (unhide HB))
        clear HL HB
        go_wp2
        go_roundw
        case rel => exact ⟨k + 1, f, by omega, by go_num, HL9, HS, HA⟩
        case measure => simp [intOf]; omega
      | false =>
        have HL9 := hide (clr_next (unhide AN).1 (unhide AN).2 (by omega) (unhide HL) (unhide HB))
        clear HL HB
        go_wp2_with (first | (at_delete; refine wp_del _ rfl _ _ rfl B _ _ rfl (unhide HS).t (k : Int) rfl (unhide WF) ?_; intro u3 t3 g3; have S3 := hide ((unhide HS).turn t3 g3); have A3 := hide (show Ints.At u3 gk ks from fun i hi => (App14.kcell g3 i gl (by omega)).trans ((unhide HA) i hi)); clear t3 g3 HS HA) | fail)
        go_roundw
        case rel => exact ⟨k + 1, _, by omega, by go_num, HL9, S3, A3⟩
        case measure => simp [intOf]; omega
    · have e : k = 20 := by omega
      subst e
      have ROW := hide (show rowF f = x.ps.filter (stays ks) by rw [tl_row (unhide HL)]; exact clr_all _ _)
      have c0 := (unhide HS).d.c0
      have c1 := (unhide HS).d.c1
      have lt := (unhide HS).d.lt
      clear HL t
      go_wp2_with fail
      refine (iDisk _ B _ _ x.room (unhide HS).t).mono ?_
      rintro e u9 ⟨y, hy0, hy, rfl, oy, b9⟩
      have R9 := hide ((unhide HS).r.below b9 (unhide HS).r.lt.2)
      have HY := hide (show (y.room, y.ps) = (x.room, x.ps.filter (stays ks)) by rw [hy0, hy, unhide ROW])
      have sz9 := (unhide HS).r.lt.2
      have EN := hide (endedD ((unhide HS).d.b.trans (b9.mono (unhide HS).d.b.size)) (unhide R9) oy (by omega))
      have f0 := (unhide R9).free 0
      have f1 := (unhide R9).free 1
      have r0 := (unhide R9).c0
      have r1 := (unhide R9).c1
      clear b9 oy hy0 hy c0 c1 lt
      go_wp2
      refine bodyPost_ret (v := .agg #[.int .i64 y.room, .slice y.a y.ps.length y.c]) (by simp [results, Try.results32, go_sem, r0, r1]) rfl ?_
      rw [unhide E]
      exact ⟨y, unhide HY, rfl, (unhide EN).1, (unhide EN).2⟩
end Go.Proofs.Yticofefdbjihiaa.IClear15
namespace Go.Proofs.Yticofefdbjihiaa.LawS11
open Go.ChangeShapes Go.WideShapes Go.ChangeAt Go.RowKit
theorem int_le {x : Int} (h : (Lit.int .i64 x).wf = true) : x ≤ 9223372036854775807 := by
  have e0 : IntKind.i64.min = -9223372036854775808 := rfl
  have e1 : IntKind.i64.max = 9223372036854775807 := rfl
  simp only [Lit.wf, e0, e1, Bool.and_eq_true, decide_eq_true_eq] at h
  exact h.2
theorem row_ints {w : World} {a : Option Addr} {len cap : Nat} {zs : List Int} (h : Ints.IsRow .i64 w a len cap zs) : (zs.take len).length = len ∧ Ints.Reads w a (zs.take len) ∧ (∀ i, i < (zs.take len).length → (zs.take len).getD i 0 ≤ 9223372036854775807) ∧ len ≤ 9223372036854775807 := by
  obtain ⟨h1, h2⟩ := Ints.row_reads h
  refine ⟨h1, h2, fun i hi => ?_, Ints.row_max h⟩
  rw [h1] at hi
  rcases h with ⟨rfl, rfl, rfl, rfl⟩ | ⟨x, rfl, hl, hm, hz, hcell, hwz⟩
  · simp at hi
  · rw [Ints.getD_take zs len i hi]
    have hj : i < zs.length := by omega
    exact int_le (hwz (zs.getD i 0) (by simp [List.getD, hj]))
end Go.Proofs.Yticofefdbjihiaa.LawS11
