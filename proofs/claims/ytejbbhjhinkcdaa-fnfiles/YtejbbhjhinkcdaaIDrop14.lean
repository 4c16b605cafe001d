/- Disks: the program's DiskDrop. -/
import Derived.Test.YtejbbhjhinkcdaaICom14
import Derived.Test.YtejbbhjhinkcdaaSDrop14
namespace Go.Proofs.Ytejbbhjhinkcdaa.IDrop14
open Go.ChangeShapes Go.WideShapes Go.ChangeAt Go.RowKit Fil14 DiskH14 DkH14 SDk14 SOk14 SRd14 App14 SLess14 SCopy14 SRef14 SCom14 SPut14 SDrop14 TabF14 PTab14 IFile14 ITb14 ICp14 IDk14 ICom14
set_option linter.unusedVariables false
set_option linter.unusedSimpArgs false
set_option maxRecDepth 100000 in
set_option maxHeartbeats 4000000 in
theorem iDiskDrop (w : World) (x : Dx) (nm : Int) (hr : RdD w x) (hz : sumZ x.ps ≤ 1048576) : Calls Try.prog 18 #[.agg #[.int .i64 x.room, .slice x.a x.ps.length x.c], .int .i64 nm] w (ToldD (dropD x.room x.ps nm) w) := by
  have G0 := hide (begunD hr)
  have s2 : ((w.alloc (.cells #[.int .i64 x.room, .slice x.a x.ps.length x.c] 26)).alloc (.cells #[.int .i64 0, .slice none 0 0] 26)).heap.size = w.heap.size + 2 := by simp
  have OK0 := hide (fun b h => iOkB _ x b (unhide G0).1.r hz h)
  have N_nm := hide (fun u b h => iNameB u nm b h)
  have XA := hide (fun g e => (hr.r g e).1)
  have h20 := hr.n
  clear hr
  by_cases ok : OkD x.room x.ps
  case neg =>
    have E := hide (show dropD x.room x.ps nm = ((0, []), 1) by unfold dropD; rw [at_bad (fun h => ok h.1)]; rfl)
    generalize dropD x.room x.ps nm = rr at *
    have OKD := hide (decide_eq_false ok)
    clear ok
    go_enter Try.func18, Try.ntmps18
    go_wp2_with fail
    refine ((unhide OK0) false (unhide OKD)).mono ?_
    rintro e u ⟨rfl, b1⟩
    have R2 := hide ((unhide G0).2.below b1 (by omega))
    have WU := hide ((unhide G0).1.step b1)
    have us := b1.size
    rw [s2] at us
    clear b1 G0 OK0 s2
    have c0 := (unhide WU).c0
    have c1 := (unhide WU).c1
    have lt := (unhide WU).lt
    have EN := hide (endedD (y := ⟨0, none, 0, []⟩) (base0 := w.heap.size + 2) (unhide WU).b (unhide R2) ⟨rfl, .inl ⟨rfl, rfl⟩⟩ (by omega))
    have f0 := (unhide R2).free 0
    have f1 := (unhide R2).free 1
    have r0 := (unhide R2).c0
    have r1 := (unhide R2).c1
    clear c0 c1 lt
    go_wp2
    refine bodyPost_ret (v := .tuple #[.agg #[.int .i64 0, .slice none 0 0], .int .i64 1]) (by simp [results, Try.results18, go_sem, r0, r1]) rfl ?_
    rw [unhide E]
    exact ⟨⟨0, none, 0, []⟩, rfl, rfl, (unhide EN).1, (unhide EN).2⟩
  have OKD := hide (decide_eq_true ok)
  have OK := hide ok
  by_cases nk : okN nm = true
  case neg =>
    have E := hide (show dropD x.room x.ps nm = ((0, []), 1) by unfold dropD; rw [at_bad (fun h => nk h.2)]; rfl)
    generalize dropD x.room x.ps nm = rr at *
    have NK := hide (show okN nm = false by simpa using nk)
    clear ok nk
    go_enter Try.func18, Try.ntmps18
    go_wp2_with fail
    refine ((unhide OK0) true (unhide OKD)).mono ?_
    rintro e u ⟨rfl, b1⟩
    have R2 := hide ((unhide G0).2.below b1 (by omega))
    have WU := hide ((unhide G0).1.step b1)
    have us := b1.size
    rw [s2] at us
    clear b1 G0 OK0 s2
    have c0 := (unhide WU).c0
    have c1 := (unhide WU).c1
    have lt := (unhide WU).lt
    go_wp2_with fail
    refine ((unhide N_nm) _ false (unhide NK)).mono ?_
    rintro e u ⟨rfl, rfl⟩
    have EN := hide (endedD (y := ⟨0, none, 0, []⟩) (base0 := w.heap.size + 2) (unhide WU).b (unhide R2) ⟨rfl, .inl ⟨rfl, rfl⟩⟩ (by omega))
    have f0 := (unhide R2).free 0
    have f1 := (unhide R2).free 1
    have r0 := (unhide R2).c0
    have r1 := (unhide R2).c1
    clear c0 c1 lt
    go_wp2
    refine bodyPost_ret (v := .tuple #[.agg #[.int .i64 0, .slice none 0 0], .int .i64 1]) (by simp [results, Try.results18, go_sem, r0, r1]) rfl ?_
    rw [unhide E]
    exact ⟨⟨0, none, 0, []⟩, rfl, rfl, (unhide EN).1, (unhide EN).2⟩
  have NK := hide nk
  have WF := hide (wf_ok nk)
  have TL := hide (tl_ok ok)
  by_cases q : findF x.ps nm < 0
  case pos =>
    have E := hide (show dropD x.room x.ps nm = ((x.room, x.ps), 2) by unfold dropD; rw [at_none ok nk q]; rfl)
    generalize dropD x.room x.ps nm = rr at *
    have FN := tl_no (unhide TL) q
    have HP := hide (show (tabOf x.ps nm).getD z0 = (0, ByteArray.empty, ByteArray.empty) by rw [FN]; rfl)
    have HI := hide (show (tabOf x.ps nm).isSome = false by rw [FN]; rfl)
    clear ok nk q FN
    go_enter Try.func18, Try.ntmps18
    go_wp2_with fail
    refine ((unhide OK0) true (unhide OKD)).mono ?_
    rintro e u ⟨rfl, b1⟩
    have R2 := hide ((unhide G0).2.below b1 (by omega))
    have WU := hide ((unhide G0).1.step b1)
    have us := b1.size
    rw [s2] at us
    clear b1 G0 OK0 s2
    have c0 := (unhide WU).c0
    have c1 := (unhide WU).c1
    have lt := (unhide WU).lt
    go_wp2_with fail
    refine ((unhide N_nm) _ true (unhide NK)).mono ?_
    rintro e u ⟨rfl, rfl⟩
    go_wp2_with fail
    refine (iTable _ x (unhide WU).r (wf_names (unhide OK))).mono ?_
    rintro e u1 ⟨rfl, tt, b2⟩
    have S1 := hide (show St w u1 x (u.heap.size + 1) x.ps.length (tabOf x.ps) from ⟨(unhide WU).step b2, (unhide R2).below b2 (unhide R2).lt.2, tt, by omega, unhide XA⟩)
    have us1 := b2.size
    clear tt b2 WU R2 c0 c1 lt
    have S2 := hide ((unhide S1).step (one_more u1 (.cells #[.int .i64 0, .string ByteArray.empty, .string ByteArray.empty] 32)))
    have c0 := (unhide S2).d.c0
    have c1 := (unhide S2).d.c1
    have lt := (unhide S2).d.lt
    go_wp2_with (first | (at_lookup; refine wp_have _ rfl _ _ rfl (u.heap.size + 1) _ _ rfl (unhide S1).t nm rfl (unhide WF) _ false (unhide HP) (unhide HI) ?_) | fail)
    refine (iCopied _ x (unhide S2).d.r).mono ?_
    rintro e u9 ⟨y, hy0, hy, rfl, oy, b9⟩
    have R9 := hide ((unhide S2).r.below b9 (unhide S2).r.lt.2)
    have HY := hide (show (y.room, y.ps) = (x.room, x.ps) by rw [hy0, hy])
    have sz9 := (unhide S2).r.lt.2
    have EN := hide (endedD ((unhide S2).d.b.trans (b9.mono (unhide S2).d.b.size)) (unhide R9) oy (by omega))
    have f0 := (unhide R9).free 0
    have f1 := (unhide R9).free 1
    have r0 := (unhide R9).c0
    have r1 := (unhide R9).c1
    clear b9 oy hy0 hy c0 c1 lt
    go_wp2
    refine bodyPost_ret (v := .tuple #[.agg #[.int .i64 y.room, .slice y.a y.ps.length y.c], .int .i64 2]) (by simp [results, Try.results18, go_sem, r0, r1]) rfl ?_
    rw [unhide E]
    exact ⟨y, unhide HY, rfl, (unhide EN).1, (unhide EN).2⟩
  obtain ⟨k, ek, kl, en⟩ := findF_in (ps := x.ps) (nm := nm) (by omega)
  have E := hide (show dropD x.room x.ps nm = ((x.room, lessN x.ps k x.ps.length), 0) by unfold dropD; rw [at_yes ok nk ek]; rfl)
  generalize dropD x.room x.ps nm = rr at *
  have ROW := tl_row (tl_less (unhide TL) kl)
  rw [en] at ROW
  have ROW := hide ROW
  have FY := tl_yes (unhide TL) kl en
  have SZ := hide (el_size hz kl)
  have HP := hide (show (tabOf x.ps nm).getD z0 = ((elF x.ps k).1, (elF x.ps k).2.1, (elF x.ps k).2.2) by rw [FY]; rfl)
  have HI := hide (show (tabOf x.ps nm).isSome = true by rw [FY]; rfl)
  clear ok nk q FY ek en TL
  generalize (elF x.ps k).1 = p0 at *
  generalize (elF x.ps k).2.1 = p1 at *
  generalize (elF x.ps k).2.2 = p2 at *
  clear kl
  go_enter Try.func18, Try.ntmps18
  go_wp2_with fail
  refine ((unhide OK0) true (unhide OKD)).mono ?_
  rintro e u ⟨rfl, b1⟩
  have R2 := hide ((unhide G0).2.below b1 (by omega))
  have WU := hide ((unhide G0).1.step b1)
  have us := b1.size
  rw [s2] at us
  clear b1 G0 OK0 s2
  have c0 := (unhide WU).c0
  have c1 := (unhide WU).c1
  have lt := (unhide WU).lt
  go_wp2_with fail
  refine ((unhide N_nm) _ true (unhide NK)).mono ?_
  rintro e u ⟨rfl, rfl⟩
  go_wp2_with fail
  refine (iTable _ x (unhide WU).r (wf_names (unhide OK))).mono ?_
  rintro e u1 ⟨rfl, tt, b2⟩
  have S1 := hide (show St w u1 x (u.heap.size + 1) x.ps.length (tabOf x.ps) from ⟨(unhide WU).step b2, (unhide R2).below b2 (unhide R2).lt.2, tt, by omega, unhide XA⟩)
  have us1 := b2.size
  clear tt b2 WU R2 c0 c1 lt
  have S2 := hide ((unhide S1).step (one_more u1 (.cells #[.int .i64 p0, .string p1, .string p2] 32)))
  have c0 := (unhide S2).d.c0
  have c1 := (unhide S2).d.c1
  have lt := (unhide S2).d.lt
  go_wp2_with (first | (at_lookup; refine wp_have _ rfl _ _ rfl (u.heap.size + 1) _ _ rfl (unhide S1).t nm rfl (unhide WF) _ true (unhide HP) (unhide HI) ?_) | (at_delete; refine wp_del _ rfl _ _ rfl (u.heap.size + 1) _ _ rfl (unhide S2).t nm rfl (unhide WF) ?_; intro u3 t3 g3; have S3 := hide ((unhide S2).turn t3 g3); clear t3 g3 c0 c1 lt; have c0 := (unhide S3).d.c0; have c1 := (unhide S3).d.c1; have lt := (unhide S3).d.lt) | fail)
  refine (iDisk _ (u.heap.size + 1) _ _ x.room (unhide S3).t).mono ?_
  rintro e u9 ⟨y, hy0, hy, rfl, oy, b9⟩
  have R9 := hide ((unhide S3).r.below b9 (unhide S3).r.lt.2)
  have HY := hide (show (y.room, y.ps) = (x.room, lessN x.ps k x.ps.length) by rw [hy0, hy, unhide ROW])
  have sz9 := (unhide S3).r.lt.2
  have EN := hide (endedD ((unhide S3).d.b.trans (b9.mono (unhide S3).d.b.size)) (unhide R9) oy (by omega))
  have f0 := (unhide R9).free 0
  have f1 := (unhide R9).free 1
  have r0 := (unhide R9).c0
  have r1 := (unhide R9).c1
  clear b9 oy hy0 hy c0 c1 lt
  go_wp2
  refine bodyPost_ret (v := .tuple #[.agg #[.int .i64 y.room, .slice y.a y.ps.length y.c], .int .i64 0]) (by simp [results, Try.results18, go_sem, r0, r1]) rfl ?_
  rw [unhide E]
  exact ⟨y, unhide HY, rfl, (unhide EN).1, (unhide EN).2⟩
end Go.Proofs.Ytejbbhjhinkcdaa.IDrop14
