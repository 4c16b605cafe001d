/- Disks: the specification's DiskDrop. -/
import Derived.Test.YtejbbhjhinkcdaaSCom14
namespace Go.Proofs.Ytejbbhjhinkcdaa.SDrop14
open Go.ChangeShapes Go.WideShapes Go.ChangeAt Go.RowKit Fil14 DiskH14 DkH14 SDk14 SOk14 SRd14 App14 SLess14 SCopy14 SRef14 SCom14
set_option linter.unusedVariables false
set_option linter.unusedSimpArgs false
/-- What DiskDrop answers. -/
def dropD (room : Int) (ps : List TF) (nm : Int) : (Int × List TF) × Int := if (atD room ps nm).2 = 0 then ((room, lessN ps (atD room ps nm).1 ps.length), 0) else (refD (atD room ps nm).2 room ps, (atD room ps nm).2)
set_option maxRecDepth 100000 in
set_option maxHeartbeats 4000000 in
theorem sDiskDrop (w : World) (x : Dx) (nm : Int) (hr : RdD w x) (hz : sumZ x.ps ≤ 1048576) :
    Calls Try.prog 44 #[.agg #[.int .i64 x.room, .slice x.a x.ps.length x.c], .int .i64 nm] w (ToldD (dropD x.room x.ps nm) w) := by
  have G0 := hide (begunD hr)
  have s2 : ((w.alloc (.cells #[.int .i64 x.room, .slice x.a x.ps.length x.c] 26)).alloc (.cells #[.int .i64 0, .slice none 0 0] 26)).heap.size = w.heap.size + 2 := by simp
  have AT := hide (sAt _ x nm (unhide G0).1.r hz)
  have AI := hide (at_in (room := x.room) (ps := x.ps) (nm := nm))
  have RE := hide (show dropD x.room x.ps nm = if (atD x.room x.ps nm).2 = 0 then ((x.room, lessN x.ps (atD x.room x.ps nm).1 x.ps.length), 0) else (refD (atD x.room x.ps nm).2 x.room x.ps, (atD x.room x.ps nm).2) from rfl)
  generalize dropD x.room x.ps nm = rr at *
  generalize atD x.room x.ps nm = at' at *
  obtain ⟨k0, c⟩ := at'
  clear hr
  go_enter Try.func44, Try.ntmps44
  go_wp2_with fail
  generalize (w.alloc (.cells #[.int .i64 x.room, .slice x.a x.ps.length x.c] 26)).alloc (.cells #[.int .i64 0, .slice none 0 0] 26) = W at *
  refine (unhide AT).mono ?_
  rintro e u ⟨rfl, b1⟩
  have W1 := hide ((unhide G0).1.step b1)
  have R1 := hide ((unhide G0).2.below b1 (by omega))
  have us := b1.size
  clear b1 AT G0
  have c0 := (unhide W1).c0
  have c1 := (unhide W1).c1
  have lt := (unhide W1).lt
  by_cases q : c = 0
  case neg =>
    have E := hide (show rr = (refD c x.room x.ps, c) by rw [unhide RE, if_neg q])
    have qb : (c != 0) = true := by simpa using q
    clear RE AI q
    go_wp2_with fail
    refine (sRefused u x c (unhide W1).r).mono ?_
    rintro e u2 ⟨y, hy, rfl, oy, b2⟩
    have R2 := hide ((unhide R1).below b2 (unhide R1).lt.2)
    have EN := hide (endedD ((unhide W1).b.trans (b2.mono (unhide W1).b.size)) (unhide R2) oy (by omega))
    have HY := hide hy
    have f0 := (unhide R2).free 0
    have f1 := (unhide R2).free 1
    have r0 := (unhide R2).c0
    have r1 := (unhide R2).c1
    clear b2 oy hy c0 c1 lt W1 R1
    go_wp2
    refine bodyPost_ret (v := .tuple #[.agg #[.int .i64 y.room, .slice y.a y.ps.length y.c], .int .i64 c]) (by simp [results, Try.results44, go_sem, r0, r1]) rfl ?_
    rw [unhide E]
    exact ⟨y, unhide HY, rfl, (unhide EN).1, (unhide EN).2⟩
  subst q
  obtain ⟨ok, okn, k, rfl, kl, en⟩ := (unhide AI) rfl
  have E := hide (show rr = ((x.room, lessN x.ps k x.ps.length), 0) by rw [unhide RE, if_pos rfl])
  clear RE AI ok okn en
  go_wp2_with fail
  refine (sLess u x k (unhide W1).r).mono ?_
  rintro e u2 ⟨y, hy0, hy, rfl, oy, b2⟩
  have R2 := hide ((unhide R1).below b2 (unhide R1).lt.2)
  have EN := hide (endedD ((unhide W1).b.trans (b2.mono (unhide W1).b.size)) (unhide R2) oy (by omega))
  have HY := hide (show (y.room, y.ps) = (x.room, lessN x.ps k x.ps.length) by rw [hy0, hy])
  have f0 := (unhide R2).free 0
  have f1 := (unhide R2).free 1
  have r0 := (unhide R2).c0
  have r1 := (unhide R2).c1
  clear b2 oy hy hy0 c0 c1 lt W1 R1
  go_wp2
  refine bodyPost_ret (v := .tuple #[.agg #[.int .i64 y.room, .slice y.a y.ps.length y.c], .int .i64 0]) (by simp [results, Try.results44, go_sem, r0, r1]) rfl ?_
  rw [unhide E]
  exact ⟨y, unhide HY, rfl, (unhide EN).1, (unhide EN).2⟩
end Go.Proofs.Ytejbbhjhinkcdaa.SDrop14
