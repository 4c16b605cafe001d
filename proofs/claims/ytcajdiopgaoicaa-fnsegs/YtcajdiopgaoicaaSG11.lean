/- Texts of one proof, one behind the other: ICut14, IMend15, ICrash14, LenAppend14, LenSync14, LenCut14, Len15. -/
import Derived.Test.YtcajdiopgaoicaaRows
import Derived.Test.YtcajdiopgaoicaaSG1
import Derived.Test.YtcajdiopgaoicaaSG2
import Derived.Test.YtcajdiopgaoicaaSG3
import Derived.Test.YtcajdiopgaoicaaSG4
import Derived.Test.YtcajdiopgaoicaaSG5
import Derived.Test.YtcajdiopgaoicaaSG6
import Derived.Test.YtcajdiopgaoicaaSG7
import Derived.Test.YtcajdiopgaoicaaSG8
import Derived.Test.YtcajdiopgaoicaaSG9
import Derived.Test.YtcajdiopgaoicaaSG10
import Derived.Deep.RegionHeld3
import Derived.Lib.MinMax
set_option linter.unusedVariables false
set_option linter.unusedSimpArgs false
namespace Go.Proofs.Ytcajdiopgaoicaa.ICut14
open Go.ChangeShapes Go.WideShapes Go.ChangeAt Go.RowKit Fil14 DiskH14 DkH14 SDk14 SOk14 SRd14 App14 SLess14 SCopy14 SRef14 SCom14 SPut14 SCut14 TabF14 PTab14 IFile14 ITb14 ICp14 IDk14 ICom14
set_option maxRecDepth 100000 in
set_option maxHeartbeats 4000000 in
theorem iDiskCut (w : World) (x : Dx) (nm n : Int) (hr : RdD w x) (hz : sumZ x.ps ≤ 1048576) : Calls Try.prog 25 #[.agg #[.int .i64 x.room, .slice x.a x.ps.length x.c], .int .i64 nm, .int .i64 n] w (ToldD (cutD x.room x.ps nm n) w) := by
  have G0 := hide (begunD hr)
  have s2 : ((w.alloc (.cells #[.int .i64 x.room, .slice x.a x.ps.length x.c] 26)).alloc (.cells #[.int .i64 0, .slice none 0 0] 26)).heap.size = w.heap.size + 2 := by simp
  have OK0 := hide (fun b h => iOkB _ x b (unhide G0).1.r hz h)
  have N_nm := hide (fun u b h => iNameB u nm b h)
  have XA := hide (fun g e => (hr.r g e).1)
  have h20 := hr.n
  clear hr
  by_cases ok : OkD x.room x.ps
  case neg =>
    have E := hide (show cutD x.room x.ps nm n = ((0, []), 1) by unfold cutD; rw [at_bad (fun h => ok h.1)]; rfl)
    generalize cutD x.room x.ps nm n = rr at *
    have OKD := hide (decide_eq_false ok)
    clear ok
    go_enter Try.func25, Try.ntmps25
    go_wp2_with fail
    refine ((unhide OK0) false (unhide OKD)).mono ?_
    rintro e u ⟨rfl, b1⟩
    have R2 := hide ((unhide G0).2.below b1 (by omega))
    have WU := hide ((unhide G0).1.step b1)
    have us := b1.size
    rw [s2] at us
    clear b1 G0 OK0 s2
    have c0 := (unhide WU).c0
    have c1 := (unhide WU).c1
    have lt := (unhide WU).lt
    have EN := hide (endedD (y := ⟨0, none, 0, []⟩) (base0 := w.heap.size + 2) (unhide WU).b (unhide R2) ⟨rfl, .inl ⟨rfl, rfl⟩⟩ (by omega))
    have f0 := (unhide R2).free 0
    have f1 := (unhide R2).free 1
    have r0 := (unhide R2).c0
    have r1 := (unhide R2).c1
    clear c0 c1 lt
    go_wp2
    refine bodyPost_ret (v := .tuple #[.agg #[.int .i64 0, .slice none 0 0], .int .i64 1]) (by simp [results, Try.results25, go_sem, r0, r1]) rfl ?_
    rw [unhide E]
    exact ⟨⟨0, none, 0, []⟩, rfl, rfl, (unhide EN).1, (unhide EN).2⟩
  have OKD := hide (decide_eq_true ok)
  have OK := hide ok
  by_cases nk : okN nm = true
  case neg =>
    have E := hide (show cutD x.room x.ps nm n = ((0, []), 1) by unfold cutD; rw [at_bad (fun h => nk h.2)]; rfl)
    generalize cutD x.room x.ps nm n = rr at *
    have NK := hide (show okN nm = false by simpa using nk)
    clear ok nk
    go_enter Try.func25, Try.ntmps25
    go_wp2_with fail
    refine ((unhide OK0) true (unhide OKD)).mono ?_
    rintro e u ⟨rfl, b1⟩
    have R2 := hide ((unhide G0).2.below b1 (by omega))
    have WU := hide ((unhide G0).1.step b1)
    have us := b1.size
    rw [s2] at us
    clear b1 G0 OK0 s2
    have c0 := (unhide WU).c0
    have c1 := (unhide WU).c1
    have lt := (unhide WU).lt
    go_wp2_with fail
    refine ((unhide N_nm) _ false (unhide NK)).mono ?_
    rintro e u ⟨rfl, rfl⟩
    have EN := hide (endedD (y := ⟨0, none, 0, []⟩) (base0 := w.heap.size + 2) (unhide WU).b (unhide R2) ⟨rfl, .inl ⟨rfl, rfl⟩⟩ (by omega))
    have f0 := (unhide R2).free 0
    have f1 := (unhide R2).free 1
    have r0 := (unhide R2).c0
    have r1 := (unhide R2).c1
    clear c0 c1 lt
    go_wp2
    refine bodyPost_ret (v := .tuple #[.agg #[.int .i64 0, .slice none 0 0], .int .i64 1]) (by simp [results, Try.results25, go_sem, r0, r1]) rfl ?_
    rw [unhide E]
    exact ⟨⟨0, none, 0, []⟩, rfl, rfl, (unhide EN).1, (unhide EN).2⟩
  have NK := hide nk
  have WF := hide (wf_ok nk)
  have TL := hide (tl_ok ok)
  by_cases q : findF x.ps nm < 0
  case pos =>
    have E := hide (show cutD x.room x.ps nm n = ((x.room, x.ps), 2) by unfold cutD; rw [at_none ok nk q]; rfl)
    generalize cutD x.room x.ps nm n = rr at *
    have FN := tl_no (unhide TL) q
    have HP := hide (show (tabOf x.ps nm).getD z0 = (0, ByteArray.empty, ByteArray.empty) by rw [FN]; rfl)
    have HI := hide (show (tabOf x.ps nm).isSome = false by rw [FN]; rfl)
    clear ok nk q FN
    go_enter Try.func25, Try.ntmps25
    go_wp2_with fail
    refine ((unhide OK0) true (unhide OKD)).mono ?_
    rintro e u ⟨rfl, b1⟩
    have R2 := hide ((unhide G0).2.below b1 (by omega))
    have WU := hide ((unhide G0).1.step b1)
    have us := b1.size
    rw [s2] at us
    clear b1 G0 OK0 s2
    have c0 := (unhide WU).c0
    have c1 := (unhide WU).c1
    have lt := (unhide WU).lt
    go_wp2_with fail
    refine ((unhide N_nm) _ true (unhide NK)).mono ?_
    rintro e u ⟨rfl, rfl⟩
    go_wp2_with fail
    refine (iTable _ x (unhide WU).r (wf_names (unhide OK))).mono ?_
    rintro e u1 ⟨rfl, tt, b2⟩
    have S1 := hide (show St w u1 x (u.heap.size + 1) x.ps.length (tabOf x.ps) from ⟨(unhide WU).step b2, (unhide R2).below b2 (unhide R2).lt.2, tt, by omega, unhide XA⟩)
    have us1 := b2.size
    clear tt b2 WU R2 c0 c1 lt
    have S2 := hide ((unhide S1).step (one_more u1 (.cells #[.int .i64 0, .string ByteArray.empty, .string ByteArray.empty] 54)))
    have c0 := (unhide S2).d.c0
    have c1 := (unhide S2).d.c1
    have lt := (unhide S2).d.lt
    go_wp2_with (first | (at_lookup; refine wp_have _ rfl _ _ rfl (u.heap.size + 1) _ _ rfl (unhide S1).t nm rfl (unhide WF) _ false (unhide HP) (unhide HI) ?_) | fail)
    refine (iCopied _ x (unhide S2).d.r).mono ?_
    rintro e u9 ⟨y, hy0, hy, rfl, oy, b9⟩
    have R9 := hide ((unhide S2).r.below b9 (unhide S2).r.lt.2)
    have HY := hide (show (y.room, y.ps) = (x.room, x.ps) by rw [hy0, hy])
    have sz9 := (unhide S2).r.lt.2
    have EN := hide (endedD ((unhide S2).d.b.trans (b9.mono (unhide S2).d.b.size)) (unhide R9) oy (by omega))
    have f0 := (unhide R9).free 0
    have f1 := (unhide R9).free 1
    have r0 := (unhide R9).c0
    have r1 := (unhide R9).c1
    clear b9 oy hy0 hy c0 c1 lt
    go_wp2
    refine bodyPost_ret (v := .tuple #[.agg #[.int .i64 y.room, .slice y.a y.ps.length y.c], .int .i64 2]) (by simp [results, Try.results25, go_sem, r0, r1]) rfl ?_
    rw [unhide E]
    exact ⟨y, unhide HY, rfl, (unhide EN).1, (unhide EN).2⟩
  obtain ⟨k, ek, kl, en⟩ := findF_in (ps := x.ps) (nm := nm) (by omega)
  have BS : ((bytesAt x.ps k).size : Int) = (elF x.ps k).2.1.size + (elF x.ps k).2.2.size := by unfold bytesAt; rw [ByteArray.size_append]; omega
  have RE := hide (show cutD x.room x.ps nm n = if 0 ≤ n ∧ n ≤ ((elF x.ps k).2.1.size : Int) + (elF x.ps k).2.2.size then ((x.room, putF x.ps (nm, (bytesAt x.ps k).extract 0 n.toNat, ByteArray.empty)), 0) else ((x.room, x.ps), 2) by unfold cutD; rw [at_yes ok nk ek]; simp only [Int.toNat_natCast]; rw [← BS]; rfl)
  generalize cutD x.room x.ps nm n = rr at *
  have ROW := hide (tl_row (tl_put (unhide TL) (nm, (bytesAt x.ps k).extract 0 n.toNat, ByteArray.empty) (Pure14.ok_named.1 nk)))
  have BY : bytesAt x.ps k = (elF x.ps k).2.1 ++ (elF x.ps k).2.2 := rfl
  have FY := tl_yes (unhide TL) kl en
  have SZ := hide (el_size hz kl)
  have HP := hide (show (tabOf x.ps nm).getD z0 = ((elF x.ps k).1, (elF x.ps k).2.1, (elF x.ps k).2.2) by rw [FY]; rfl)
  have HI := hide (show (tabOf x.ps nm).isSome = true by rw [FY]; rfl)
  rw [BY] at ROW RE
  clear ok nk q FY BY BS ek en TL
  generalize (elF x.ps k).1 = p0 at *
  generalize (elF x.ps k).2.1 = p1 at *
  generalize (elF x.ps k).2.2 = p2 at *
  clear kl
  by_cases n0 : n < 0
  case pos =>
    have E := hide (show rr = ((x.room, x.ps), 2) by rw [unhide RE, if_neg (by omega)])
    clear RE ROW
    go_enter Try.func25, Try.ntmps25
    go_wp2_with fail
    refine ((unhide OK0) true (unhide OKD)).mono ?_
    rintro e u ⟨rfl, b1⟩
    have R2 := hide ((unhide G0).2.below b1 (by omega))
    have WU := hide ((unhide G0).1.step b1)
    have us := b1.size
    rw [s2] at us
    clear b1 G0 OK0 s2
    have c0 := (unhide WU).c0
    have c1 := (unhide WU).c1
    have lt := (unhide WU).lt
    go_wp2_with fail
    refine ((unhide N_nm) _ true (unhide NK)).mono ?_
    rintro e u ⟨rfl, rfl⟩
    go_wp2_with fail
    refine (iTable _ x (unhide WU).r (wf_names (unhide OK))).mono ?_
    rintro e u1 ⟨rfl, tt, b2⟩
    have S1 := hide (show St w u1 x (u.heap.size + 1) x.ps.length (tabOf x.ps) from ⟨(unhide WU).step b2, (unhide R2).below b2 (unhide R2).lt.2, tt, by omega, unhide XA⟩)
    have us1 := b2.size
    clear tt b2 WU R2 c0 c1 lt
    have S2 := hide ((unhide S1).step (one_more u1 (.cells #[.int .i64 p0, .string p1, .string p2] 54)))
    have c0 := (unhide S2).d.c0
    have c1 := (unhide S2).d.c1
    have lt := (unhide S2).d.lt
    go_wp2_with (first | (at_lookup; refine wp_have _ rfl _ _ rfl (u.heap.size + 1) _ _ rfl (unhide S1).t nm rfl (unhide WF) _ true (unhide HP) (unhide HI) ?_) | fail)
    refine (iCopied _ x (unhide S2).d.r).mono ?_
    rintro e u9 ⟨y, hy0, hy, rfl, oy, b9⟩
    have R9 := hide ((unhide S2).r.below b9 (unhide S2).r.lt.2)
    have HY := hide (show (y.room, y.ps) = (x.room, x.ps) by rw [hy0, hy])
    have sz9 := (unhide S2).r.lt.2
    have EN := hide (endedD ((unhide S2).d.b.trans (b9.mono (unhide S2).d.b.size)) (unhide R9) oy (by omega))
    have f0 := (unhide R9).free 0
    have f1 := (unhide R9).free 1
    have r0 := (unhide R9).c0
    have r1 := (unhide R9).c1
    clear b9 oy hy0 hy c0 c1 lt
    go_wp2
    refine bodyPost_ret (v := .tuple #[.agg #[.int .i64 y.room, .slice y.a y.ps.length y.c], .int .i64 2]) (by simp [results, Try.results25, go_sem, r0, r1]) rfl ?_
    rw [unhide E]
    exact ⟨y, unhide HY, rfl, (unhide EN).1, (unhide EN).2⟩
  have d0 : decide (n < 0) = false := decide_eq_false n0
  by_cases n1 : n > (p1.size : Int) + p2.size
  case pos =>
    have E := hide (show rr = ((x.room, x.ps), 2) by rw [unhide RE, if_neg (by omega)])
    clear RE ROW n0
    go_enter Try.func25, Try.ntmps25
    go_wp2_with fail
    refine ((unhide OK0) true (unhide OKD)).mono ?_
    rintro e u ⟨rfl, b1⟩
    have R2 := hide ((unhide G0).2.below b1 (by omega))
    have WU := hide ((unhide G0).1.step b1)
    have us := b1.size
    rw [s2] at us
    clear b1 G0 OK0 s2
    have c0 := (unhide WU).c0
    have c1 := (unhide WU).c1
    have lt := (unhide WU).lt
    go_wp2_with fail
    refine ((unhide N_nm) _ true (unhide NK)).mono ?_
    rintro e u ⟨rfl, rfl⟩
    go_wp2_with fail
    refine (iTable _ x (unhide WU).r (wf_names (unhide OK))).mono ?_
    rintro e u1 ⟨rfl, tt, b2⟩
    have S1 := hide (show St w u1 x (u.heap.size + 1) x.ps.length (tabOf x.ps) from ⟨(unhide WU).step b2, (unhide R2).below b2 (unhide R2).lt.2, tt, by omega, unhide XA⟩)
    have us1 := b2.size
    clear tt b2 WU R2 c0 c1 lt
    have S2 := hide ((unhide S1).step (one_more u1 (.cells #[.int .i64 p0, .string p1, .string p2] 54)))
    have c0 := (unhide S2).d.c0
    have c1 := (unhide S2).d.c1
    have lt := (unhide S2).d.lt
    go_wp2_with (first | (at_lookup; refine wp_have _ rfl _ _ rfl (u.heap.size + 1) _ _ rfl (unhide S1).t nm rfl (unhide WF) _ true (unhide HP) (unhide HI) ?_) | fail)
    refine (iSizeF _ p0 p1 p2 (unhide SZ)).mono ?_
    rintro e u3 ⟨rfl, b3⟩
    have S3 := hide ((unhide S2).step b3)
    clear b3 c0 c1 lt S1
    have c0 := (unhide S3).d.c0
    have c1 := (unhide S3).d.c1
    have lt := (unhide S3).d.lt
    go_wp2_with fail
    refine (iCopied _ x (unhide S3).d.r).mono ?_
    rintro e u9 ⟨y, hy0, hy, rfl, oy, b9⟩
    have R9 := hide ((unhide S3).r.below b9 (unhide S3).r.lt.2)
    have HY := hide (show (y.room, y.ps) = (x.room, x.ps) by rw [hy0, hy])
    have sz9 := (unhide S3).r.lt.2
    have EN := hide (endedD ((unhide S3).d.b.trans (b9.mono (unhide S3).d.b.size)) (unhide R9) oy (by omega))
    have f0 := (unhide R9).free 0
    have f1 := (unhide R9).free 1
    have r0 := (unhide R9).c0
    have r1 := (unhide R9).c1
    clear b9 oy hy0 hy c0 c1 lt
    go_wp2
    refine bodyPost_ret (v := .tuple #[.agg #[.int .i64 y.room, .slice y.a y.ps.length y.c], .int .i64 2]) (by simp [results, Try.results25, go_sem, r0, r1]) rfl ?_
    rw [unhide E]
    exact ⟨y, unhide HY, rfl, (unhide EN).1, (unhide EN).2⟩
  have d1 : decide (n > (p1.size : Int) + p2.size) = false := decide_eq_false n1
  have E := hide (show rr = ((x.room, putF x.ps (nm, (p1 ++ p2).extract 0 n.toNat, ByteArray.empty)), 0) by rw [unhide RE, if_pos (by omega)])
  obtain ⟨m, rfl⟩ : ∃ m : Nat, n = m := ⟨n.toNat, by omega⟩
  have ms : (m : Int) ≤ ((p1 ++ p2).size : Int) := by rw [ByteArray.size_append]; omega
  have MS := hide ms
  simp only [Int.toNat_natCast] at E ROW
  clear RE n0 n1 ms
  go_enter Try.func25, Try.ntmps25
  go_wp2_with fail
  refine ((unhide OK0) true (unhide OKD)).mono ?_
  rintro e u ⟨rfl, b1⟩
  have R2 := hide ((unhide G0).2.below b1 (by omega))
  have WU := hide ((unhide G0).1.step b1)
  have us := b1.size
  rw [s2] at us
  clear b1 G0 OK0 s2
  have c0 := (unhide WU).c0
  have c1 := (unhide WU).c1
  have lt := (unhide WU).lt
  go_wp2_with fail
  refine ((unhide N_nm) _ true (unhide NK)).mono ?_
  rintro e u ⟨rfl, rfl⟩
  go_wp2_with fail
  refine (iTable _ x (unhide WU).r (wf_names (unhide OK))).mono ?_
  rintro e u1 ⟨rfl, tt, b2⟩
  have S1 := hide (show St w u1 x (u.heap.size + 1) x.ps.length (tabOf x.ps) from ⟨(unhide WU).step b2, (unhide R2).below b2 (unhide R2).lt.2, tt, by omega, unhide XA⟩)
  have us1 := b2.size
  clear tt b2 WU R2 c0 c1 lt
  have S2 := hide ((unhide S1).step (one_more u1 (.cells #[.int .i64 p0, .string p1, .string p2] 54)))
  have c0 := (unhide S2).d.c0
  have c1 := (unhide S2).d.c1
  have lt := (unhide S2).d.lt
  go_wp2_with (first | (at_lookup; refine wp_have _ rfl _ _ rfl (u.heap.size + 1) _ _ rfl (unhide S1).t nm rfl (unhide WF) _ true (unhide HP) (unhide HI) ?_) | fail)
  refine (iSizeF _ p0 p1 p2 (unhide SZ)).mono ?_
  rintro e u3 ⟨rfl, b3⟩
  have S3 := hide ((unhide S2).step b3)
  have F0 := (b3.cell (p := ⟨u1.heap.size, 0, none⟩) (show u1.heap.size < (u1.alloc (.cells #[.int .i64 p0, .string p1, .string p2] 54)).heap.size by simp)).trans (show (u1.alloc (.cells #[.int .i64 p0, .string p1, .string p2] 54)).cell? ⟨u1.heap.size, 0, none⟩ = some (.int .i64 p0) by simp [go_sem])
  have F1 := (b3.cell (p := ⟨u1.heap.size, 1, none⟩) (show u1.heap.size < (u1.alloc (.cells #[.int .i64 p0, .string p1, .string p2] 54)).heap.size by simp)).trans (show (u1.alloc (.cells #[.int .i64 p0, .string p1, .string p2] 54)).cell? ⟨u1.heap.size, 1, none⟩ = some (.string p1) by simp [go_sem])
  have F2 := (b3.cell (p := ⟨u1.heap.size, 2, none⟩) (show u1.heap.size < (u1.alloc (.cells #[.int .i64 p0, .string p1, .string p2] 54)).heap.size by simp)).trans (show (u1.alloc (.cells #[.int .i64 p0, .string p1, .string p2] 54)).cell? ⟨u1.heap.size, 2, none⟩ = some (.string p2) by simp [go_sem])
  clear b3 c0 c1 lt S1
  have c0 := (unhide S3).d.c0
  have c1 := (unhide S3).d.c1
  have lt := (unhide S3).d.lt
  go_wp2_with fail
  refine (iText _ p0 p1 p2 (unhide SZ)).mono ?_
  rintro e u5 ⟨rfl, b5⟩
  have S5 := hide ((unhide S3).step b5)
  have ms := unhide MS
  clear b5 c0 c1 lt F0 F1 F2
  generalize p1 ++ p2 = tx at *
  have c0 := (unhide S5).d.c0
  have c1 := (unhide S5).d.c1
  have lt := (unhide S5).d.lt
  go_wp2_with (first | (at_mapUpdate; refine wp_put _ rfl _ _ _ rfl (u.heap.size + 1) _ _ rfl (unhide S5).t h20 nm (nm, tx.extract 0 m, ByteArray.empty) rfl rfl (unhide WF) ?_; intro u4 t4 g4; have S4 := hide ((unhide S5).turn t4 g4); clear t4 g4 c0 c1 lt; have c0 := (unhide S4).d.c0; have c1 := (unhide S4).d.c1; have lt := (unhide S4).d.lt) | fail)
  refine (iDisk _ (u.heap.size + 1) _ _ x.room (unhide S4).t).mono ?_
  rintro e u9 ⟨y, hy0, hy, rfl, oy, b9⟩
  have R9 := hide ((unhide S4).r.below b9 (unhide S4).r.lt.2)
  have HY := hide (show (y.room, y.ps) = (x.room, putF x.ps (nm, tx.extract 0 m, ByteArray.empty)) by rw [hy0, hy, unhide ROW])
  have sz9 := (unhide S4).r.lt.2
  have EN := hide (endedD ((unhide S4).d.b.trans (b9.mono (unhide S4).d.b.size)) (unhide R9) oy (by omega))
  have f0 := (unhide R9).free 0
  have f1 := (unhide R9).free 1
  have r0 := (unhide R9).c0
  have r1 := (unhide R9).c1
  clear b9 oy hy0 hy c0 c1 lt
  go_wp2
  refine bodyPost_ret (v := .tuple #[.agg #[.int .i64 y.room, .slice y.a y.ps.length y.c], .int .i64 0]) (by simp [results, Try.results25, go_sem, r0, r1]) rfl ?_
  rw [unhide E]
  exact ⟨y, unhide HY, rfl, (unhide EN).1, (unhide EN).2⟩
end Go.Proofs.Ytcajdiopgaoicaa.ICut14
namespace Go.Proofs.Ytcajdiopgaoicaa.IMend15
open Go.ChangeShapes Go.WideShapes Go.ChangeAt Go.RowKit Fil14 DiskH14 DkH14 SDk14 SOk14 SRd14 SCom14 SCut14 Conv15 SegP15 SSeg15 SMend15 ISg15
set_option maxRecDepth 100000 in
set_option maxHeartbeats 4000000 in
theorem iSegMend (w : World) (x : Dx) (seg : Int) (hr : RdD w x) (hz : sumZ x.ps ≤ 1048576) (hw : TabF14.Wf seg) :
    Calls Try.prog 7 #[.agg #[.int .i64 x.room, .slice x.a x.ps.length x.c], .int .i64 seg] w (ToldD (mendD x.room x.ps seg) w) := by
  have G0 := hide (begunD hr)
  have s2 : ((w.alloc (.cells #[.int .i64 x.room, .slice x.a x.ps.length x.c] 26)).alloc (.cells #[.int .i64 0, .slice none 0 0] 26)).heap.size = w.heap.size + 2 := by simp
  have SR := hide (fun u (h : RdD u x) => ISeg15.iSegRead u x seg h hz hw)
  have CU := hide (fun u (h : RdD u x) => ICut14.iDiskCut u x seg (segD x.room x.ps seg).2 h hz)
  have RE := hide (show mendD x.room x.ps seg = if okS seg = true then cutD x.room x.ps seg (segD x.room x.ps seg).2 else ((0, []), 1) from rfl)
  generalize mendD x.room x.ps seg = rr at *
  generalize cutD x.room x.ps seg (segD x.room x.ps seg).2 = rc at *
  generalize segD x.room x.ps seg = sg at *
  obtain ⟨sl, sn⟩ := sg
  obtain ⟨rd, cc⟩ := rc
  clear hr
  cases sk : okS seg with
  | false =>
    have E := hide (show rr = ((0, []), 1) by rw [unhide RE, if_neg (by rw [sk]; simp)])
    have SK := hide sk
    clear RE sk
    go_enter Try.func7, Try.ntmps7
    go_wp2_with fail
    generalize (w.alloc (.cells #[.int .i64 x.room, .slice x.a x.ps.length x.c] 26)).alloc (.cells #[.int .i64 0, .slice none 0 0] 26) = W at *
    refine (iSegOk _ seg false (unhide SK)).mono ?_
    rintro e u ⟨rfl, rfl⟩
    have R2 := hide (unhide G0).2
    have EN := hide (endedD (y := ⟨0, none, 0, []⟩) (base0 := w.heap.size + 2) (unhide G0).1.b (unhide R2) ⟨rfl, .inl ⟨rfl, rfl⟩⟩ (by omega))
    have f0 := (unhide R2).free 0
    have f1 := (unhide R2).free 1
    have r0 := (unhide R2).c0
    have r1 := (unhide R2).c1
    go_wp2
    refine bodyPost_ret (v := .tuple #[.agg #[.int .i64 0, .slice none 0 0], .int .i64 1]) (by simp [results, Try.results7, go_sem, r0, r1]) rfl ?_
    rw [unhide E]
    exact ⟨⟨0, none, 0, []⟩, rfl, rfl, (unhide EN).1, (unhide EN).2⟩
  | true =>
    have E := hide (show rr = (rd, cc) by rw [unhide RE, if_pos sk])
    have SK := hide sk
    clear RE sk
    go_enter Try.func7, Try.ntmps7
    go_wp2_with fail
    generalize (w.alloc (.cells #[.int .i64 x.room, .slice x.a x.ps.length x.c] 26)).alloc (.cells #[.int .i64 0, .slice none 0 0] 26) = W at *
    refine (iSegOk _ seg true (unhide SK)).mono ?_
    rintro e u ⟨rfl, rfl⟩
    have c0 := (unhide G0).1.c0
    have c1 := (unhide G0).1.c1
    have lt := (unhide G0).1.lt
    go_wp2_with fail
    refine (unhide SR _ (unhide G0).1.r).mono ?_
    rintro e u1 ⟨a1, c, rfl, _, b1⟩
    have W1 := hide ((unhide G0).1.step b1)
    have R1 := hide ((unhide G0).2.below b1 (unhide G0).2.lt.2)
    clear b1 c0 c1 lt G0 SR
    have c0 := (unhide W1).c0
    have c1 := (unhide W1).c1
    have lt := (unhide W1).lt
    go_wp2_with fail
    refine (unhide CU _ (unhide W1).r).mono ?_
    rintro e u9 ⟨z, hz', rfl, oz, b9⟩
    have R9 := hide ((unhide R1).below b9 (unhide R1).lt.2)
    have HZ := hide hz'
    have EN := hide (endedD ((unhide W1).b.trans (b9.mono (unhide W1).b.size)) (unhide R9) oz (unhide R1).lt.2)
    have f0 := (unhide R9).free 0
    have f1 := (unhide R9).free 1
    have r0 := (unhide R9).c0
    have r1 := (unhide R9).c1
    clear b9 oz hz' c0 c1 lt
    go_wp2
    refine bodyPost_ret (v := .tuple #[.agg #[.int .i64 z.room, .slice z.a z.ps.length z.c], .int .i64 cc]) (by simp [results, Try.results7, go_sem, r0, r1]) rfl ?_
    rw [unhide E]
    exact ⟨z, unhide HZ, rfl, (unhide EN).1, (unhide EN).2⟩
end Go.Proofs.Ytcajdiopgaoicaa.IMend15
namespace Go.Proofs.Ytcajdiopgaoicaa.ICrash14
open Go.ChangeShapes Go.WideShapes Go.ChangeAt Go.RowKit Fil14 DiskH14 DkH14 SDk14 SOk14 SRd14 App14 SLess14 SCopy14 SRef14 SCom14 SCrash14 TabF14 PTab14 IFile14 ICp14 ICom14
/-- The first k files crashed, the others as they were. -/
def half (f : TF → TF) (ps : List TF) (k : Nat) : List TF := (ps.take k).map f ++ ps.drop k
theorem half_len (f : TF → TF) (ps : List TF) (k : Nat) : (half f ps k).length = ps.length := by
  unfold half
  simp
  omega
theorem half_el (f : TF → TF) {ps : List TF} {k : Nat} (h : k < ps.length) : elF (half f ps k) k = elF ps k := by
  unfold half
  have : ((ps.take k).map f).length = k := by simp; omega
  simp only [List.getD]
  rw [List.getElem?_append_right (by omega), this, List.getElem?_drop]
  simp
theorem half_next (f : TF → TF) {ps : List TF} {k : Nat} (h : k < ps.length) : (half f ps k).set k (f (elF ps k)) = half f ps (k + 1) := by
  unfold half
  have hl : ((ps.take k).map f).length = k := by simp; omega
  rw [List.set_append_right _ _ (by omega), hl, Nat.sub_self, List.drop_eq_getElem_cons h, List.set_cons_zero, List.take_succ_eq_append_getElem h, List.map_append, List.append_assoc]
  simp [List.getD, h]
theorem mod3 {L : List TF} {k : Nat} (h : k < L.length) (a : Int) (b c : ByteArray) : ((L.modify k fun p => (a, p.2)).modify k fun p => (p.1, b, p.2.2)).modify k (fun p => (p.1, p.2.1, c)) = L.set k (a, b, c) := by
  apply List.ext_getElem?
  intro i
  simp only [List.getElem?_modify, List.getElem?_set]
  by_cases e : k = i
  · subst e
    simp [h]
  · simp [e]
/-- A world in which the disk that is copied has the files L. -/
structure Cr (u W wr : World) (v : Value) (n : Nat) (L : List TF) : Prop where
  gr : W.grownBy wr v.ownBlock
  ow : wr.ownsRow u.heap.size 54 3 v n (flatF L)
  ge : ∀ j, v.ownBlock = some j → u.heap.size ≤ j ∧ j + 1 < W.heap.size
abbrev oK0 : Oper := { dst := some 29, op := Go.Op.fieldAddr 26 (Go.Operand.tmp 5) 1, type := 0, pos := "l14_disk.go:124", after := #[], guard := none }
abbrev oK1 : Oper := { dst := some 30, op := Go.Op.load 24 (Go.Operand.tmp 29), type := 24, pos := "l14_disk.go:124", after := #[{ on := 0, ground := Go.Ground.data }], guard := none }
abbrev oK2 : Oper := { dst := some 31, op := Go.Op.move (Go.Operand.tmp 6), type := 3, pos := "l14_disk.go:124", after := #[], guard := none }
abbrev oK3 : Oper := { dst := some 32, op := Go.Op.fieldAddr 54 (Go.Operand.tmp 7) 0, type := 0, pos := "l14_disk.go:124", after := #[], guard := none }
abbrev oK4 : Oper := { dst := some 33, op := Go.Op.load 3 (Go.Operand.tmp 32), type := 3, pos := "l14_disk.go:124", after := #[{ on := 3, ground := Go.Ground.data }], guard := none }
abbrev oK5 : Oper := { dst := some 34, op := Go.Op.fieldAddr 54 (Go.Operand.tmp 7) 1, type := 0, pos := "l14_disk.go:124", after := #[], guard := none }
abbrev oK6 : Oper := { dst := some 35, op := Go.Op.load 9 (Go.Operand.tmp 34), type := 9, pos := "l14_disk.go:124", after := #[{ on := 5, ground := Go.Ground.data }], guard := none }
abbrev oK7 : Oper := { dst := some 36, op := Go.Op.fieldAddr 54 (Go.Operand.tmp 7) 2, type := 0, pos := "l14_disk.go:124", after := #[], guard := none }
abbrev oK8 : Oper := { dst := some 37, op := Go.Op.load 9 (Go.Operand.tmp 36), type := 9, pos := "l14_disk.go:124", after := #[{ on := 7, ground := Go.Ground.data }], guard := none }
abbrev oK9 : Oper := { dst := some 38, op := Go.Op.move (Go.Operand.tmp 8), type := 3, pos := "l14_disk.go:124", after := #[], guard := none }
abbrev oK10 : Oper := { dst := some 39, op := Go.Op.slice 9 (Go.Operand.tmp 37) none (some (Go.Operand.tmp 38)) none, type := 9, pos := "l14_disk.go:124", after := #[{ on := 8, ground := Go.Ground.data }, { on := 9, ground := Go.Ground.data }], guard := none }
abbrev oK11 : Oper := { dst := some 40, op := Go.Op.binOp Go.BinOp.add 9 (Go.Operand.tmp 35) (Go.Operand.tmp 39) 9, type := 9, pos := "l14_disk.go:124", after := #[{ on := 6, ground := Go.Ground.data }, { on := 10, ground := Go.Ground.data }], guard := none }
abbrev oK12 : Oper := { dst := some 41, op := Go.Op.build 54 #[(0, Go.Operand.tmp 33), (1, Go.Operand.tmp 40)], type := 54, pos := "l14_disk.go:124", after := #[{ on := 4, ground := Go.Ground.data }, { on := 11, ground := Go.Ground.data }], guard := none }
abbrev oK13 : Oper := { dst := some 42, op := Go.Op.indexAddr 24 (Go.Operand.tmp 30) (Go.Operand.tmp 31), type := 0, pos := "l14_disk.go:124", after := #[{ on := 1, ground := Go.Ground.data }, { on := 2, ground := Go.Ground.data }, { on := 0, ground := Go.Ground.phase }, { on := 1, ground := Go.Ground.phase }, { on := 2, ground := Go.Ground.phase }, { on := 3, ground := Go.Ground.phase }, { on := 4, ground := Go.Ground.phase }, { on := 5, ground := Go.Ground.phase }, { on := 6, ground := Go.Ground.phase }, { on := 7, ground := Go.Ground.phase }, { on := 8, ground := Go.Ground.phase }, { on := 9, ground := Go.Ground.phase }, { on := 10, ground := Go.Ground.phase }, { on := 11, ground := Go.Ground.phase }, { on := 12, ground := Go.Ground.phase }], guard := none }
abbrev oK14 : Oper := { dst := none, op := Go.Op.store 54 (Go.Operand.tmp 42) (Go.Operand.tmp 41), type := 0, pos := "l14_disk.go:124", after := #[{ on := 13, ground := Go.Ground.data }, { on := 12, ground := Go.Ground.data }, { on := 0, ground := Go.Ground.phase }, { on := 1, ground := Go.Ground.phase }, { on := 2, ground := Go.Ground.phase }, { on := 3, ground := Go.Ground.phase }, { on := 4, ground := Go.Ground.phase }, { on := 5, ground := Go.Ground.phase }, { on := 6, ground := Go.Ground.phase }, { on := 7, ground := Go.Ground.phase }, { on := 8, ground := Go.Ground.phase }, { on := 9, ground := Go.Ground.phase }, { on := 10, ground := Go.Ground.phase }, { on := 11, ground := Go.Ground.phase }, { on := 12, ground := Go.Ground.phase }], guard := none }
set_option maxRecDepth 100000 in
set_option maxHeartbeats 4000000 in
theorem iDiskCrash (w : World) (x : Dx) (keep : Int) (hr : RdD w x) (hz : sumZ x.ps ≤ 1048576) : Calls Try.prog 13 #[.agg #[.int .i64 x.room, .slice x.a x.ps.length x.c], .int .i64 keep] w fun e w' => ∃ y : Dx, (y.room, y.ps) = crashD x.room x.ps keep ∧ e = .returned (.agg #[.int .i64 y.room, .slice y.a y.ps.length y.c]) ∧ OwD w' w.heap.size y ∧ Below w.heap.size w w' := by
  have G0 := hide (begunD hr)
  have s2 : ((w.alloc (.cells #[.int .i64 x.room, .slice x.a x.ps.length x.c] 26)).alloc (.cells #[.int .i64 0, .slice none 0 0] 26)).heap.size = w.heap.size + 2 := by simp
  have OK0 := hide (fun b h => iOkB _ x b (unhide G0).1.r hz h)
  have h20 := hr.n
  clear hr
  by_cases ok : OkD x.room x.ps
  case neg =>
    have E := hide (show crashD x.room x.ps keep = (0, []) from if_neg ok)
    generalize crashD x.room x.ps keep = rr at *
    have OKD := hide (decide_eq_false ok)
    clear ok
    go_enter Try.func13, Try.ntmps13
    go_wp2_with fail
    refine ((unhide OK0) false (unhide OKD)).mono ?_
    rintro e u ⟨rfl, b1⟩
    have R2 := hide ((unhide G0).2.below b1 (by omega))
    have EN := hide (endedD (y := ⟨0, none, 0, []⟩) (base0 := w.heap.size + 2) (((unhide G0).1.step b1).b) (unhide R2) ⟨rfl, .inl ⟨rfl, rfl⟩⟩ (by omega))
    have f0 := (unhide R2).free 0
    have f1 := (unhide R2).free 1
    have r0 := (unhide R2).c0
    have r1 := (unhide R2).c1
    clear b1
    go_wp2
    refine bodyPost_ret (v := .agg #[.int .i64 0, .slice none 0 0]) (by simp [results, Try.results13, go_sem, r0, r1]) rfl ⟨⟨0, none, 0, []⟩, (unhide E).symm, rfl, (unhide EN).1, (unhide EN).2⟩
  have E := hide (show crashD x.room x.ps keep = (x.room, x.ps.map (crashF keep)) from if_pos ok)
  generalize crashD x.room x.ps keep = rr at *
  have OKD := hide (decide_eq_true ok)
  clear ok
  go_enter Try.func13, Try.ntmps13
  go_wp2_with fail
  refine ((unhide OK0) true (unhide OKD)).mono ?_
  rintro e u ⟨rfl, b1⟩
  have WU := hide ((unhide G0).1.step b1)
  have RU := hide ((unhide G0).2.below b1 (by omega))
  have us := b1.size
  rw [s2] at us
  clear b1 G0 OK0 s2
  have c0 := (unhide WU).c0
  have c1 := (unhide WU).c1
  have lt := (unhide WU).lt
  go_wp2_with fail
  refine (iCopied u x (unhide WU).r).mono ?_
  rintro e u1 ⟨y, hy0, hy, rfl, oy, b2⟩
  obtain ⟨yroom, ya, yc, yps⟩ := y
  simp only at hy0 hy
  subst hy0 hy
  unfold OwD at oy
  simp only at oy
  generalize hn : x.ps.length = n at *
  have HN := hide hn
  have bA := one_more u1 (.cells #[.int .i64 x.room, .slice ya n yc] 26)
  have W1 := hide (((unhide WU).step b2).step bA)
  have R1 := hide (((unhide RU).below b2 (unhide RU).lt.2).below bA (by have := (unhide RU).lt.2; have := b2.size; omega))
  have C0 := hide (show Cr u (u1.alloc (.cells #[.int .i64 x.room, .slice ya n yc] 26)) (u1.alloc (.cells #[.int .i64 x.room, .slice ya n yc] 26)) (.slice ya n yc) n (half (crashF keep) x.ps 0) from ⟨World.grownBy.refl _ _, row_step oy bA, fun j hj => by have := World.ownsRow.lt oy j hj; simp; omega⟩)
  have a0 : (u1.alloc (.cells #[.int .i64 x.room, .slice ya n yc] 26)).cell? ⟨u1.heap.size, 0, none⟩ = some (.int .i64 x.room) := by simp [go_sem]
  have a1 : (u1.alloc (.cells #[.int .i64 x.room, .slice ya n yc] 26)).cell? ⟨u1.heap.size, 1, none⟩ = some (.slice ya n yc) := by simp [go_sem]
  have s3 : (u1.alloc (.cells #[.int .i64 x.room, .slice ya n yc] 26)).heap.size = u1.heap.size + 1 := by simp
  have AW := hide (And.intro a0 a1)
  have us1 := b2.size
  clear b2 bA oy hn WU RU a0 a1 c0 c1 lt
  go_wp2
  generalize u1.alloc (.cells #[.int .i64 x.room, .slice ya n yc] 26) = W at *
  go_loopw [18] (fun i wr => ∃ (k : Nat), i = .int .i64 k ∧ k ≤ n ∧ Hid (Cr u W wr (.slice ya n yc) n (half (crashF keep) x.ps k))) (fun i _ => n - (intOf i).toNat)
  case atStart => exact ⟨0, rfl, by omega, C0⟩
  case round =>
    clear C0
    obtain ⟨k, rfl, hk, CR⟩ := hrel
    have gs := (unhide CR).gr.size
    have GE := hide (unhide CR).ge
    have k0 := hide ((World.cell?_of_block (w := W) (a := ⟨u1.heap.size, 0, none⟩) ((unhide CR).gr.block u1.heap.size (by omega) (fun e => by have := (unhide GE) _ e.symm; omega))).trans (unhide AW).1)
    have k1 := hide ((World.cell?_of_block (w := W) (a := ⟨u1.heap.size, 1, none⟩) ((unhide CR).gr.block u1.heap.size (by omega) (fun e => by have := (unhide GE) _ e.symm; omega))).trans (unhide AW).2)
    by_cases t : k < n
    · have kt : (k : Int) < n := by omega
      have tk : k < x.ps.length := by rw [unhide HN]; exact t
      obtain ⟨g, ea⟩ := (addr_of (unhide CR).ow).1 (by omega)
      subst ea
      have gg := (unhide GE) g rfl
      have EL := half_el (crashF keep) tk
      have NX := hide (half_next (crashF keep) tk)
      have LL := hide (show k < (half (crashF keep) x.ps k).length by rw [half_len]; exact tk)
      obtain ⟨e0, e1, e2⟩ := OwnF.at (unhide CR).ow k (unhide LL)
      rw [EL] at e0 e1 e2
      have IX := ixF yc (rfl : (some ⟨g, 0, none⟩ : Option Addr) = some ⟨g, 0, none⟩) t
      have SZ := el_size hz tk
      obtain ⟨km, hkm⟩ : ∃ km, max keep 0 = km := ⟨_, rfl⟩
      obtain ⟨kn, hkn⟩ : ∃ kn : Nat, min km ((elF x.ps k).2.2.size : Int) = kn := ⟨(min km ((elF x.ps k).2.2.size : Int)).toNat, by omega⟩
      have TE : crashF keep (elF x.ps k) = ((elF x.ps k).1, (elF x.ps k).2.1 ++ (elF x.ps k).2.2.extract 0 kn, ByteArray.empty) := by
        unfold crashF
        rw [hkm, hkn, Int.toNat_natCast]
      have kz : (kn : Int) ≤ ((elF x.ps k).2.2.size : Int) := by omega
      rw [TE] at NX
      generalize half (crashF keep) x.ps k = L at *

      clear TE EL
      generalize (elF x.ps k).1 = z0 at *
      generalize (elF x.ps k).2.1 = z1 at *
      generalize (elF x.ps k).2.2 = z2 at *
      have M1 : ∀ ts t w, (Builtin.max_ ts t #[.int .i64 keep, .int .i64 0]).run Try.prog w = .ok (.int .i64 km) w := fun ts t w => by rw [← hkm]; exact Lib.run_max_ints w ts t .i64 .i64 keep 0
      have M2 : ∀ ts t w, (Builtin.min_ ts t #[.int .i64 km, .int .i64 z2.size]).run Try.prog w = .ok (.int .i64 kn) w := fun ts t w => by rw [← hkn]; exact Lib.run_min_ints w ts t .i64 .i64 km z2.size
      have sx : z1.size + (z2.extract 0 kn).size ≤ 9223372036854775807 := by
        have : (z2.extract 0 kn).size ≤ z2.size := by simp; omega
        omega
      have sm : z1.size + min kn z2.size ≤ 9223372036854775807 := by omega
      have bV := hide (one_more wr (.cells #[.int .i64 z0, .string z1, .string z2] 54))
      have K8 : (wr.alloc (.cells #[.int .i64 z0, .string z1, .string z2] 54)).cell? ⟨u1.heap.size, 1, none⟩ = some (.slice (some ⟨g, 0, none⟩) n yc) ∧ (wr.alloc (.cells #[.int .i64 z0, .string z1, .string z2] 54)).cell? ⟨wr.heap.size, 0, none⟩ = some (.int .i64 z0) ∧ (wr.alloc (.cells #[.int .i64 z0, .string z1, .string z2] 54)).cell? ⟨wr.heap.size, 1, none⟩ = some (.string z1) ∧ (wr.alloc (.cells #[.int .i64 z0, .string z1, .string z2] 54)).cell? ⟨wr.heap.size, 2, none⟩ = some (.string z2) := ⟨((unhide bV).cell (p := ⟨u1.heap.size, 1, none⟩) (by show u1.heap.size < wr.heap.size; omega)).trans (unhide k1), by simp [go_sem], by simp [go_sem], by simp [go_sem]⟩
      have OV := hide (row_step (unhide CR).ow (unhide bV))
      clear hkm hkn
      obtain ⟨V, hV⟩ : ∃ V, Hid (V = wr.alloc (.cells #[.int .i64 z0, .string z1, .string z2] 54)) := ⟨_, rfl⟩
      have vL := hide (show wr.heap.size < V.heap.size by rw [unhide hV]; simp)
      rw [← unhide hV] at K8 bV OV
      have OD := hide (show OwnF 54 V.drew u.heap.size g n yc L from unhide OV)
      obtain ⟨o1, g1⟩ := (unhide OD).set0 k z0
      obtain ⟨o2, g2⟩ := o1.set1 k (z1 ++ z2.extract 0 kn)
      obtain ⟨o3, g3⟩ := o2.set2 k ⟨#[]⟩
      have GG := hide (grow_grow (grow_grow g1 g2) g3)
      rw [mod3 (unhide LL), show (⟨#[]⟩ : ByteArray) = ByteArray.empty from rfl, unhide NX] at o3
      have OVF := hide (show OwnF 54 V u.heap.size g n yc L from unhide OV)
      have fr0 := (unhide OVF).free (k * 3)
      have fr1 := (unhide OVF).free (k * 3 + 1)
      have fr2 := (unhide OVF).free (k * 3 + 2)
      have q0 := ((unhide OVF).at k (unhide LL)).1
      have q1 := ((unhide OVF).at k (unhide LL)).2.1
      have q2 := ((unhide OVF).at k (unhide LL)).2.2
      have vs := (unhide bV).size
      have K9 : (((V.drew.setCell ⟨g, k * 3, none⟩ (.int .i64 z0)).setCell ⟨g, k * 3 + 1, none⟩ (.string (z1 ++ z2.extract 0 kn))).setCell ⟨g, k * 3 + 2, none⟩ (.string ⟨#[]⟩)).cell? ⟨u1.heap.size, 1, none⟩ = some (.slice (some ⟨g, 0, none⟩) n yc) ∧ (((V.drew.setCell ⟨g, k * 3, none⟩ (.int .i64 z0)).setCell ⟨g, k * 3 + 1, none⟩ (.string (z1 ++ z2.extract 0 kn))).setCell ⟨g, k * 3 + 2, none⟩ (.string ⟨#[]⟩)).cell? ⟨wr.heap.size, 0, none⟩ = some (.int .i64 z0) ∧ (((V.drew.setCell ⟨g, k * 3, none⟩ (.int .i64 z0)).setCell ⟨g, k * 3 + 1, none⟩ (.string (z1 ++ z2.extract 0 kn))).setCell ⟨g, k * 3 + 2, none⟩ (.string ⟨#[]⟩)).cell? ⟨wr.heap.size, 1, none⟩ = some (.string z1) ∧ (((V.drew.setCell ⟨g, k * 3, none⟩ (.int .i64 z0)).setCell ⟨g, k * 3 + 1, none⟩ (.string (z1 ++ z2.extract 0 kn))).setCell ⟨g, k * 3 + 2, none⟩ (.string ⟨#[]⟩)).cell? ⟨wr.heap.size, 2, none⟩ = some (.string z2) := ⟨(kcell (unhide GG) 1 (show u1.heap.size < V.heap.size by omega) (by omega)).trans K8.1, (kcell (unhide GG) 0 (unhide vL) (by omega)).trans K8.2.1, (kcell (unhide GG) 1 (unhide vL) (by omega)).trans K8.2.2.1, (kcell (unhide GG) 2 (unhide vL) (by omega)).trans K8.2.2.2⟩
      have C9 := hide (show Cr u W (((V.drew.setCell ⟨g, k * 3, none⟩ (.int .i64 z0)).setCell ⟨g, k * 3 + 1, none⟩ (.string (z1 ++ z2.extract 0 kn))).setCell ⟨g, k * 3 + 2, none⟩ (.string ⟨#[]⟩)) (.slice (some ⟨g, 0, none⟩) n yc) n (half (crashF keep) x.ps (k + 1)) from ⟨⟨(unhide GG).os.trans ((unhide bV).os.trans (unhide CR).gr.os), (unhide GG).tape.trans ((unhide bV).tape.trans (unhide CR).gr.tape), (unhide GG).output.trans ((unhide bV).output.trans (unhide CR).gr.output), Nat.le_trans (unhide CR).gr.size (Nat.le_trans (unhide bV).size (unhide GG).size), fun i hi hne => ((unhide GG).block i (show i < V.heap.size by omega) hne).trans (((unhide bV).block i (by omega)).trans ((unhide CR).gr.block i hi hne))⟩, o3, unhide GE⟩)
      clear o1 o2 o3 g1 g2 g3
      go_wp2_with fail
      rw [← unhide hV]
      clear hV
      refine wp_region_held_drew (S := (fun w' => w'.cell? ⟨u1.heap.size, 1, none⟩ = some (.slice (some ⟨g, 0, none⟩) n yc) ∧ w'.cell? ⟨wr.heap.size, 0, none⟩ = some (.int .i64 z0) ∧ w'.cell? ⟨wr.heap.size, 1, none⟩ = some (.string z1) ∧ w'.cell? ⟨wr.heap.size, 2, none⟩ = some (.string z2))) (by kernel_rfl) K8 (fun hHeld => ?_)
      refine wpAnyH_take (i := 0) (oi := oK0) (v := .pointer (some ⟨u1.heap.size, 1, none⟩)) rfl (by kernel_rfl) (by kernel_rfl) (by kernel_rfl) (fun _ _ _ h => h) (Or.inl ⟨by rfl, fun w hSw => ?_⟩) hHeld ?_
      · (try dsimp only at hSw)
        unfold oK0
        go_simp
      try simp only [oK0, Act.put, List.setIfInBounds_toArray, List.set_cons_zero, List.set_cons_succ]
      refine wpAnyH_take (i := 1) (oi := oK1) (v := .slice (some ⟨g, 0, none⟩) n yc) rfl (by kernel_rfl) (by kernel_rfl) (by kernel_rfl) (fun _ _ _ h => h) (Or.inl ⟨by rfl, fun w hSw => ?_⟩) hHeld ?_
      · (try dsimp only at hSw)
        unfold oK1
        go_simp
      try simp only [oK1, Act.put, List.setIfInBounds_toArray, List.set_cons_zero, List.set_cons_succ]
      refine wpAnyH_take (i := 2) (oi := oK2) (v := .int .i64 k) rfl (by kernel_rfl) (by kernel_rfl) (by kernel_rfl) (fun _ _ _ h => h) (Or.inl ⟨by rfl, fun w hSw => ?_⟩) hHeld ?_
      · (try dsimp only at hSw)
        unfold oK2
        go_simp
      try simp only [oK2, Act.put, List.setIfInBounds_toArray, List.set_cons_zero, List.set_cons_succ]
      refine wpAnyH_take (i := 3) (oi := oK3) (v := .pointer (some ⟨wr.heap.size, 0, none⟩)) rfl (by kernel_rfl) (by kernel_rfl) (by kernel_rfl) (fun _ _ _ h => h) (Or.inl ⟨by rfl, fun w hSw => ?_⟩) hHeld ?_
      · (try dsimp only at hSw)
        unfold oK3
        go_simp
      try simp only [oK3, Act.put, List.setIfInBounds_toArray, List.set_cons_zero, List.set_cons_succ]
      refine wpAnyH_take (i := 4) (oi := oK4) (v := .int .i64 z0) rfl (by kernel_rfl) (by kernel_rfl) (by kernel_rfl) (fun _ _ _ h => h) (Or.inl ⟨by rfl, fun w hSw => ?_⟩) hHeld ?_
      · (try dsimp only at hSw)
        unfold oK4
        go_simp
      try simp only [oK4, Act.put, List.setIfInBounds_toArray, List.set_cons_zero, List.set_cons_succ]
      refine wpAnyH_take (i := 5) (oi := oK5) (v := .pointer (some ⟨wr.heap.size, 1, none⟩)) rfl (by kernel_rfl) (by kernel_rfl) (by kernel_rfl) (fun _ _ _ h => h) (Or.inl ⟨by rfl, fun w hSw => ?_⟩) hHeld ?_
      · (try dsimp only at hSw)
        unfold oK5
        go_simp
      try simp only [oK5, Act.put, List.setIfInBounds_toArray, List.set_cons_zero, List.set_cons_succ]
      refine wpAnyH_take (i := 6) (oi := oK6) (v := .string z1) rfl (by kernel_rfl) (by kernel_rfl) (by kernel_rfl) (fun _ _ _ h => h) (Or.inl ⟨by rfl, fun w hSw => ?_⟩) hHeld ?_
      · (try dsimp only at hSw)
        unfold oK6
        go_simp
      try simp only [oK6, Act.put, List.setIfInBounds_toArray, List.set_cons_zero, List.set_cons_succ]
      refine wpAnyH_take (i := 7) (oi := oK7) (v := .pointer (some ⟨wr.heap.size, 2, none⟩)) rfl (by kernel_rfl) (by kernel_rfl) (by kernel_rfl) (fun _ _ _ h => h) (Or.inl ⟨by rfl, fun w hSw => ?_⟩) hHeld ?_
      · (try dsimp only at hSw)
        unfold oK7
        go_simp
      try simp only [oK7, Act.put, List.setIfInBounds_toArray, List.set_cons_zero, List.set_cons_succ]
      refine wpAnyH_take (i := 8) (oi := oK8) (v := .string z2) rfl (by kernel_rfl) (by kernel_rfl) (by kernel_rfl) (fun _ _ _ h => h) (Or.inl ⟨by rfl, fun w hSw => ?_⟩) hHeld ?_
      · (try dsimp only at hSw)
        unfold oK8
        go_simp
      try simp only [oK8, Act.put, List.setIfInBounds_toArray, List.set_cons_zero, List.set_cons_succ]
      refine wpAnyH_take (i := 9) (oi := oK9) (v := .int .i64 kn) rfl (by kernel_rfl) (by kernel_rfl) (by kernel_rfl) (fun _ _ _ h => h) (Or.inl ⟨by rfl, fun w hSw => ?_⟩) hHeld ?_
      · (try dsimp only at hSw)
        unfold oK9
        go_simp
      try simp only [oK9, Act.put, List.setIfInBounds_toArray, List.set_cons_zero, List.set_cons_succ]
      refine wpAnyH_take (i := 10) (oi := oK10) (v := .string (z2.extract 0 kn)) rfl (by kernel_rfl) (by kernel_rfl) (by kernel_rfl) (fun _ _ _ h => h) (Or.inl ⟨by rfl, fun w hSw => ?_⟩) hHeld ?_
      · (try dsimp only at hSw)
        unfold oK10
        go_simp
      try simp only [oK10, Act.put, List.setIfInBounds_toArray, List.set_cons_zero, List.set_cons_succ]
      refine wpAnyH_take (i := 11) (oi := oK11) (v := .string (z1 ++ z2.extract 0 kn)) rfl (by kernel_rfl) (by kernel_rfl) (by kernel_rfl) (fun _ _ _ h => h) (Or.inl ⟨by rfl, fun w hSw => ?_⟩) hHeld ?_
      · (try dsimp only at hSw)
        unfold oK11
        go_simp
      try simp only [oK11, Act.put, List.setIfInBounds_toArray, List.set_cons_zero, List.set_cons_succ]
      refine wpAnyH_take (i := 12) (oi := oK12) (v := .agg #[.int .i64 z0, .string (z1 ++ z2.extract 0 kn), .string ⟨#[]⟩]) rfl (by kernel_rfl) (by kernel_rfl) (by kernel_rfl) (fun _ _ _ h => h) (Or.inl ⟨by rfl, fun w hSw => ?_⟩) hHeld ?_
      · (try dsimp only at hSw)
        unfold oK12
        go_simp
      try simp only [oK12, Act.put, List.setIfInBounds_toArray, List.set_cons_zero, List.set_cons_succ]
      refine wpAnyH_take (i := 13) (oi := oK13) (v := .pointer (some ⟨g, k * 3, none⟩)) rfl (by kernel_rfl) (by kernel_rfl) (by kernel_rfl) (fun _ _ _ h => h) (Or.inl ⟨by rfl, fun w hSw => ?_⟩) hHeld ?_
      · (try dsimp only at hSw)
        unfold oK13
        go_simp
      try simp only [oK13, Act.put, List.setIfInBounds_toArray, List.set_cons_zero, List.set_cons_succ]
      refine wpAnyH_ready (rs := [14]) (by kernel_rfl) (by simp) ?_
      refine AllReadyH.cons (o := oK14) rfl (fun K hK => ?_) AllReadyH.nil
      unfold oK14
      go_simp
      refine hK.out _ _ K9 (fun hHeld => ?_)
      clear hK K
      try simp only [oK14, Act.put, List.setIfInBounds_toArray, List.set_cons_zero, List.set_cons_succ]
      refine wpAnyH_done (by kernel_rfl) ?_ _
      clear K8 K9 q0 q1 q2 fr0 fr1 fr2
      go_wp2
      go_roundw
      case rel => exact ⟨k + 1, by go_num, by omega, C9⟩
      case measure => simp [intOf]; omega
    · have e : k = n := by omega
      subst e
      have ck0 := unhide k0
      have ck1 := unhide k1
      have HL := hide (show half (crashF keep) x.ps k = x.ps.map (crashF keep) by unfold half; rw [← unhide HN]; simp)
      have Rk := hide ((unhide R1).kept (unhide CR).gr (fun e => by have := (unhide GE) _ e.symm; omega))
      have BK := hide (show Below w.heap.size w wr from ⟨(unhide CR).gr.os.trans (unhide W1).b.os, (unhide CR).gr.tape.trans (unhide W1).b.tape, (unhide CR).gr.output.trans (unhide W1).b.output, Nat.le_trans (unhide W1).b.size gs, fun i hi => ((unhide CR).gr.block i (by omega) (fun e => by have := (unhide GE) _ e.symm; omega)).trans ((unhide W1).b.block i hi)⟩)
      have EN := hide (endedD (y := ⟨x.room, ya, yc, x.ps.map (crashF keep)⟩) (base0 := u.heap.size) (unhide BK) (unhide Rk) (by unfold OwD; simp only [List.length_map, unhide HN]; rw [← unhide HL]; exact (unhide CR).ow) (by omega))
      have f0 := (unhide Rk).free 0
      have f1 := (unhide Rk).free 1
      have r0 := (unhide Rk).c0
      have r1 := (unhide Rk).c1
      simp only [List.length_map, unhide HN] at EN
      clear k0 k1
      go_wp2
      refine bodyPost_ret (v := .agg #[.int .i64 x.room, .slice ya k yc]) (by simp [results, Try.results13, go_sem, r0, r1]) rfl ⟨⟨x.room, ya, yc, x.ps.map (crashF keep)⟩, (unhide E).symm, by simp [unhide HN], (unhide EN).1, (unhide EN).2⟩
end Go.Proofs.Ytcajdiopgaoicaa.ICrash14
namespace Go.Proofs.Ytcajdiopgaoicaa.LenAppend14
open Go.ChangeShapes Go.WideShapes Go.ChangeAt Go.RowKit Fil14 DiskH14 DkH14 SDk14 SOk14 SRd14 App14 SLess14 SCopy14 SRef14 SCom14 SPut14 SAppend14
theorem putN_len (ps : List TF) (f : TF) : ∀ k, (putN ps f k).1.length ≤ k + (if (putN ps f k).2 = true then 1 else 0)
  | 0 => by simp [putN]
  | k + 1 => by
    have ih := putN_len ps f k
    obtain ⟨L, pb⟩ : ∃ L, ∃ pb, putN ps f k = (L, pb) := ⟨_, _, rfl⟩
    obtain ⟨pb, e⟩ := pb
    rw [putN_succ e]
    rw [e] at ih
    simp only at ih ⊢
    generalize elF ps k = p
    cases pb <;> by_cases a : f.1 ≤ p.1 <;> by_cases b : p.1 = f.1 <;> simp [a, b] at ih ⊢ <;> omega
theorem put_len (ps : List TF) (f : TF) : (putF ps f).length ≤ ps.length + 1 := by
  have h := putN_len ps f ps.length
  unfold putF
  split
  · rename_i q
    rw [if_pos q] at h
    exact h
  · rename_i q
    rw [if_neg q] at h
    simp
    omega
theorem len_append {room : Int} {ps : List TF} (nm : Int) (s : ByteArray) (h : ps.length ≤ 1048576) : (appendD room ps nm s).1.2.length ≤ 1048576 := by
  unfold appendD
  by_cases q : OkD room ps ∧ okN nm = true
  · rw [if_pos q]
    split
    · exact h
    · have := put_len ps (appF ps nm s)
      have := q.1.2.1
      show (putF _ _).length ≤ _
      omega
  · rw [if_neg q]
    simp
end Go.Proofs.Ytcajdiopgaoicaa.LenAppend14
namespace Go.Proofs.Ytcajdiopgaoicaa.LenSync14
open Go.ChangeShapes Go.WideShapes Go.ChangeAt Go.RowKit Fil14 DiskH14 DkH14 SDk14 SOk14 SRd14 App14 SLess14 SCopy14 SRef14 SCom14 SPut14 SSync14
theorem ref_len {code room : Int} {ps : List TF} (h : ps.length ≤ 1048576) : (refD code room ps).2.length ≤ 1048576 := by
  unfold refD
  split
  · simp
  · exact h
theorem putN_len (ps : List TF) (f : TF) : ∀ k, (putN ps f k).1.length ≤ k + (if (putN ps f k).2 = true then 1 else 0)
  | 0 => by simp [putN]
  | k + 1 => by
    have ih := putN_len ps f k
    obtain ⟨L, pb⟩ : ∃ L, ∃ pb, putN ps f k = (L, pb) := ⟨_, _, rfl⟩
    obtain ⟨pb, e⟩ := pb
    rw [putN_succ e]
    rw [e] at ih
    simp only at ih ⊢
    generalize elF ps k = p
    cases pb <;> by_cases a : f.1 ≤ p.1 <;> by_cases b : p.1 = f.1 <;> simp [a, b] at ih ⊢ <;> omega
theorem put_len (ps : List TF) (f : TF) : (putF ps f).length ≤ ps.length + 1 := by
  have h := putN_len ps f ps.length
  unfold putF
  split
  · rename_i q
    rw [if_pos q] at h
    exact h
  · rename_i q
    rw [if_neg q] at h
    simp
    omega
theorem len_sync {room : Int} {ps : List TF} (nm : Int) (h : ps.length ≤ 1048576) : (syncD room ps nm).1.2.length ≤ 1048576 := by
  unfold syncD
  by_cases q : (atD room ps nm).2 = 0
  · rw [if_pos q]
    have := put_len ps (nm, bytesAt ps (atD room ps nm).1.toNat, ByteArray.empty)
    have := (at_in q).1.2.1
    show (putF _ _).length ≤ _
    omega
  · rw [if_neg q]
    exact ref_len h
end Go.Proofs.Ytcajdiopgaoicaa.LenSync14
namespace Go.Proofs.Ytcajdiopgaoicaa.LenCut14
open Go.ChangeShapes Go.WideShapes Go.ChangeAt Go.RowKit Fil14 DiskH14 DkH14 SDk14 SOk14 SRd14 App14 SLess14 SCopy14 SRef14 SCom14 SPut14 SCut14
theorem ref_len {code room : Int} {ps : List TF} (h : ps.length ≤ 1048576) : (refD code room ps).2.length ≤ 1048576 := by
  unfold refD
  split
  · simp
  · exact h
theorem putN_len (ps : List TF) (f : TF) : ∀ k, (putN ps f k).1.length ≤ k + (if (putN ps f k).2 = true then 1 else 0)
  | 0 => by simp [putN]
  | k + 1 => by
    have ih := putN_len ps f k
    obtain ⟨L, pb⟩ : ∃ L, ∃ pb, putN ps f k = (L, pb) := ⟨_, _, rfl⟩
    obtain ⟨pb, e⟩ := pb
    rw [putN_succ e]
    rw [e] at ih
    simp only at ih ⊢
    generalize elF ps k = p
    cases pb <;> by_cases a : f.1 ≤ p.1 <;> by_cases b : p.1 = f.1 <;> simp [a, b] at ih ⊢ <;> omega
theorem put_len (ps : List TF) (f : TF) : (putF ps f).length ≤ ps.length + 1 := by
  have h := putN_len ps f ps.length
  unfold putF
  split
  · rename_i q
    rw [if_pos q] at h
    exact h
  · rename_i q
    rw [if_neg q] at h
    simp
    omega
theorem len_cut {room : Int} {ps : List TF} (nm n : Int) (h : ps.length ≤ 1048576) : (cutD room ps nm n).1.2.length ≤ 1048576 := by
  unfold cutD
  by_cases q : (atD room ps nm).2 = 0
  · rw [if_pos q]
    split
    · have := put_len ps (nm, (bytesAt ps (atD room ps nm).1.toNat).extract 0 n.toNat, ByteArray.empty)
      have := (at_in q).1.2.1
      show (putF _ _).length ≤ _
      omega
    · exact ref_len h
  · rw [if_neg q]
    exact ref_len h
end Go.Proofs.Ytcajdiopgaoicaa.LenCut14
namespace Go.Proofs.Ytcajdiopgaoicaa.Len15
open Fil14 DiskH14 SDk14 SOk14 SRd14 SAppend14 SSync14 SCut14 SegP15 SLate15 SAdd15 SMend15 SFrom15
theorem len_late {room : Int} {ps : List TF} (seg : Int) (s : ByteArray) (h : ps.length ≤ 1048576) : (lateD room ps seg s).1.2.length ≤ 1048576 := by
  unfold lateD
  split
  · exact LenAppend14.len_append seg _ h
  · simp
theorem len_add {room : Int} {ps : List TF} (seg : Int) (s : ByteArray) (h : ps.length ≤ 1048576) : (addD room ps seg s).1.2.length ≤ 1048576 := by
  unfold addD
  split
  · exact LenSync14.len_sync seg (len_late seg s h)
  · exact len_late seg s h
theorem len_mend {room : Int} {ps : List TF} (seg : Int) (h : ps.length ≤ 1048576) : (mendD room ps seg).1.2.length ≤ 1048576 := by
  unfold mendD
  split
  · exact LenCut14.len_cut seg _ h
  · simp
end Go.Proofs.Ytcajdiopgaoicaa.Len15
