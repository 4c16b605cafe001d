/- Texts of one proof. -/
import Derived.Test.YtlbgfdpcgpijhaaGreatQB35
import Derived.Test.YtlbgfdpcgpijhaaGreatQB44
open Go.ChangeShapes Go.WideShapes Go.ChangeAt Go.RowKit
set_option linter.unusedVariables false
set_option linter.unusedSimpArgs false
set_option maxRecDepth 100000
set_option maxHeartbeats 32000000
namespace Go.Proofs.YtlbgfdpcgpijhaaGreat
namespace IFour16
open Fil14 OpensF14 DiskH14 DkH14 SDk14 SOk14 SRd14 App14 SLess14 SCopy14 SRef14 SCom14 SAppend14 SSync14 SMove14 SDrop14 SSave16 SStep16
open SClear15 (clearD)
theorem name20:okN 20=true:=by unfold okN;decide
theorem name21:okN 21=true:=by unfold okN;decide
theorem at_is{room:Int}{ps:List TF}(h:OkD room ps):atD room ps 20=(findF ps 20,if findF ps 20<0 then 2 else 0):=if_pos ⟨h,name20⟩
theorem drop_is{room:Int}{ps:List TF}(h:OkD room ps):(dropD room ps 20).1=(room,lessD ps):=by
 have A:=at_is h
 unfold dropD lessD
 rw[A]
 by_cases q:findF ps 20<0
 ·simp only[if_pos q]
  rw[if_neg (by decide),if_neg (by omega)]
  rfl
 ·simp only[if_neg q]
  rw[if_pos trivial,if_pos (by omega)]
theorem sync_no{room:Int}{ps:List TF}(h:OkD room ps)(k:(syncD room ps 20).2≠0):(syncD room ps 20).1=(room,ps):=by
 have A:=at_is h
 unfold syncD at k⊢
 rw[A] at k⊢
 by_cases q:findF ps 20<0
 ·simp only[if_pos q] at k⊢
  rw[if_neg (by decide)]
  rfl
 ·simp only[if_neg q] at k
  exact absurd rfl k
theorem move_no{room:Int}{ps:List TF}(h:OkD room ps)(k:(moveD room ps 20 21).2≠0):(moveD room ps 20 21).1=(room,ps):=by
 have A:=at_is h
 unfold moveD at k⊢
 rw[if_pos ⟨name21,by decide⟩,A] at k⊢
 by_cases q:findF ps 20<0
 ·simp only[if_pos q] at k⊢
  rw[if_neg (by decide)]
  rfl
 ·simp only[if_neg q] at k
  exact absurd rfl k
noncomputable def rawD (room:Int) (ps:List TF) (t:ByteArray) (k:Int):(Int×List TF)×Int:=if k=0 then appendD room (lessD ps) 20 t else if k=1 then syncD room ps 20 else if k=2 then moveD room ps 20 21 else(clearD room ps [],0)
theorem raw_is{room:Int}{ps:List TF}(h:OkD room ps)(t:ByteArray)(k:Int):stepsD room ps t k=if(rawD room ps t k).2=0 then rawD room ps t k else((room,ps),(rawD room ps t k).2):=by
 unfold stepsD rawD
 by_cases k0:k=0
 ·rw[if_pos k0,if_pos k0];rfl
 ·simp only[if_neg k0]
  by_cases k1:k=1
  ·simp only[if_pos k1]
   by_cases q:(syncD room ps 20).2=0
   ·rw[if_pos q]
   ·rw[if_neg q,←sync_no h q]
  ·simp only[if_neg k1]
   by_cases k2:k=2
   ·simp only[if_pos k2]
    by_cases q:(moveD room ps 20 21).2=0
    ·rw[if_pos q]
    ·rw[if_neg q,←move_no h q]
   ·simp only[if_neg k2]
    rw[if_pos trivial]
theorem iWriteNew(w:World)(x:Dx)(t:ByteArray)(hr:RdD w x)(hz:sumZ x.ps≤1048576)(ok:OkD x.room x.ps)(ht:t.size≤9223372036854775807):Calls Tryz.prog 209 #[.agg #[.int .i64 x.room,.slice x.a x.ps.length x.c],.string t] w (ToldD (appendD x.room (lessD x.ps) 20 t) w):=by
 have G0:=zh (begunD hr)
 have s2:((w.alloc (.cells #[.int .i64 x.room,.slice x.a x.ps.length x.c] 38)).alloc (.cells #[.int .i64 0,.slice none 0 0] 38)).heap.size=w.heap.size+2:=by simp
 have DR:=zh (IDrop14.iDiskDrop _ x 20 (zu G0).1.r hz)
 have DD:=zh (drop_is ok)
 have LO:=zh (less_small ok)
 have AP:=zh (fun u (z:Dx) (h:RdD u z) (hz:sumZ z.ps≤1048576)=>IAppend14.iDiskAppend u z 20 t h hz ht)
 have c0:=(zu G0).1.c0
 have c1:=(zu G0).1.c1
 have lt:=(zu G0).1.lt
 obtain⟨rr,hrr⟩:∃rr,appendD x.room (lessD x.ps) 20 t=rr:=⟨_,rfl⟩
 rw[hrr]
 have RR:=zh hrr
 clear hrr
 generalize dropD x.room x.ps 20=dd at *
 generalize lessD x.ps=qs at *
 obtain⟨dd,dc⟩:=dd
 clear hr ok
 go_enter Tryz.func209,Tryz.ntmps209
 go_wp2_with fail
 generalize (w.alloc (.cells #[.int .i64 x.room,.slice x.a x.ps.length x.c] 38)).alloc (.cells #[.int .i64 0,.slice none 0 0] 38)=W at *
 refine(zu DR).mono ?_
 rintro e u ⟨z,hz',rfl,oz,b1⟩
 have e1:=hz'.trans (zu DD)
 obtain⟨e2,e3⟩:z.room=x.room∧z.ps=qs:=Prod.ext_iff.1 e1
 subst e3
 rw[←e2] at LO
 have RQ:=zh (show appendD z.room z.ps 20 t=rr from by rw[e2];exact zu RR)
 clear RR
 have us:=b1.size
 have bA:=one_more u (.cells #[.int .i64 z.room,.slice z.a z.ps.length z.c] 38)
 have G1:=zh (((zu G0).1.step b1).step bA)
 have R1:=zh (((zu G0).2.below b1 (zu G0).2.lt.2).below bA (by have:=(zu G0).2.lt.2;omega))
 have OK:=zu LO
 have OZ:=zh ((oz.step bA).rd (by have:=OK.2.1;omega))
 have AQ:=zh (fun u' (h:RdD u' z)=>(zu AP) u' z h (by have:=OK.2.2.1;have:=OK.1;omega))
 have lw:=(zu G0).2.lt.2
 clear b1 bA oz hz' e1 e2 c0 c1 lt DR DD LO AP OK G0
 rw[zu RQ] at AQ
 clear RQ
 obtain⟨rd,rc⟩:=rr
 go_wp2_with fail
 refine(zu AQ _ (zu OZ)).mono ?_
 rintro e u9 ⟨y,hz',rfl,oy,b9⟩
 have G9:=zh ((zu G1).step b9)
 have R9:=zh ((zu R1).below b9 (zu R1).lt.2)
 have OY:=zh oy
 have HZ:=zh hz'
 have lw1:=(zu R1).lt.2
 clear b9 oy hz' AQ G1 R1 OZ
 have EN:=zh (endedD (zu G9).b (zu R9) (zu OY) (by omega))
 have f0:=(zu R9).free 0
 have f1:=(zu R9).free 1
 have r0:=(zu R9).c0
 have r1:=(zu R9).c1
 go_wp2
 refine bodyPost_ret (v:= .tuple #[.agg #[.int .i64 y.room,.slice y.a y.ps.length y.c],.int .i64 rc]) (by simp[results,Tryz.results209,go_sem,r0,r1]) rfl ?_
 exact⟨y,zu HZ,rfl,(zu EN).1,(zu EN).2⟩
theorem iSyncNew(w:World)(x:Dx)(t:ByteArray)(hr:RdD w x)(hz:sumZ x.ps≤1048576):Calls Tryz.prog 210 #[.agg #[.int .i64 x.room,.slice x.a x.ps.length x.c],.string t] w (ToldD (syncD x.room x.ps 20) w):=by
 have G0:=zh (begunD hr)
 have s2:((w.alloc (.cells #[.int .i64 x.room,.slice x.a x.ps.length x.c] 38)).alloc (.cells #[.int .i64 0,.slice none 0 0] 38)).heap.size=w.heap.size+2:=by simp
 have SY:=zh (ISync14.iDiskSync _ x 20 (zu G0).1.r hz)
 have c0:=(zu G0).1.c0
 have c1:=(zu G0).1.c1
 have lt:=(zu G0).1.lt
 generalize syncD x.room x.ps 20=rr at *
 obtain⟨rd,rc⟩:=rr
 clear hr
 go_enter Tryz.func210,Tryz.ntmps210
 go_wp2_with fail
 generalize (w.alloc (.cells #[.int .i64 x.room,.slice x.a x.ps.length x.c] 38)).alloc (.cells #[.int .i64 0,.slice none 0 0] 38)=W at *
 refine(zu SY).mono ?_
 rintro e u9 ⟨z,hz',rfl,oz,b9⟩
 have WZ:=zh ((zu G0).1.step b9)
 have R9:=zh ((zu G0).2.below b9 (zu G0).2.lt.2)
 have OZ:=zh oz
 have HZ:=zh hz'
 have lw:=(zu G0).2.lt.2
 clear c0 c1 lt SY b9 oz hz'
 have EN:=zh (endedD (zu WZ).b (zu R9) (zu OZ) (by omega))
 have f0:=(zu R9).free 0
 have f1:=(zu R9).free 1
 have r0:=(zu R9).c0
 have r1:=(zu R9).c1
 go_wp2
 refine bodyPost_ret (v:= .tuple #[.agg #[.int .i64 z.room,.slice z.a z.ps.length z.c],.int .i64 rc]) (by simp[results,Tryz.results210,go_sem,r0,r1]) rfl ?_
 exact⟨z,zu HZ,rfl,(zu EN).1,(zu EN).2⟩
theorem iMoveNew(w:World)(x:Dx)(t:ByteArray)(hr:RdD w x)(hz:sumZ x.ps≤1048576):Calls Tryz.prog 211 #[.agg #[.int .i64 x.room,.slice x.a x.ps.length x.c],.string t] w (ToldD (moveD x.room x.ps 20 21) w):=by
 have G0:=zh (begunD hr)
 have s2:((w.alloc (.cells #[.int .i64 x.room,.slice x.a x.ps.length x.c] 38)).alloc (.cells #[.int .i64 0,.slice none 0 0] 38)).heap.size=w.heap.size+2:=by simp
 have SY:=zh (IMove14.iDiskMove _ x 20 21 (zu G0).1.r hz)
 have c0:=(zu G0).1.c0
 have c1:=(zu G0).1.c1
 have lt:=(zu G0).1.lt
 generalize moveD x.room x.ps 20 21=rr at *
 obtain⟨rd,rc⟩:=rr
 clear hr
 go_enter Tryz.func211,Tryz.ntmps211
 go_wp2_with fail
 generalize (w.alloc (.cells #[.int .i64 x.room,.slice x.a x.ps.length x.c] 38)).alloc (.cells #[.int .i64 0,.slice none 0 0] 38)=W at *
 refine(zu SY).mono ?_
 rintro e u9 ⟨z,hz',rfl,oz,b9⟩
 have WZ:=zh ((zu G0).1.step b9)
 have R9:=zh ((zu G0).2.below b9 (zu G0).2.lt.2)
 have OZ:=zh oz
 have HZ:=zh hz'
 have lw:=(zu G0).2.lt.2
 clear c0 c1 lt SY b9 oz hz'
 have EN:=zh (endedD (zu WZ).b (zu R9) (zu OZ) (by omega))
 have f0:=(zu R9).free 0
 have f1:=(zu R9).free 1
 have r0:=(zu R9).c0
 have r1:=(zu R9).c1
 go_wp2
 refine bodyPost_ret (v:= .tuple #[.agg #[.int .i64 z.room,.slice z.a z.ps.length z.c],.int .i64 rc]) (by simp[results,Tryz.results211,go_sem,r0,r1]) rfl ?_
 exact⟨z,zu HZ,rfl,(zu EN).1,(zu EN).2⟩
theorem iClearSegs(w:World)(x:Dx)(t:ByteArray)(hr:RdD w x)(hz:sumZ x.ps≤1048576):Calls Tryz.prog 212 #[.agg #[.int .i64 x.room,.slice x.a x.ps.length x.c],.string t] w (ToldD (clearD x.room x.ps [],0) w):=by
 have G0:=zh (begunD hr)
 have s2:((w.alloc (.cells #[.int .i64 x.room,.slice x.a x.ps.length x.c] 38)).alloc (.cells #[.int .i64 0,.slice none 0 0] 38)).heap.size=w.heap.size+2:=by simp
 have SY:=zh (IClear16.iSegsClearO _ x none 0 [] (zu G0).1.r hz (by simp) (.inl rfl))
 have c0:=(zu G0).1.c0
 have c1:=(zu G0).1.c1
 have lt:=(zu G0).1.lt
 generalize clearD x.room x.ps []=rd at *
 clear hr
 go_enter Tryz.func212,Tryz.ntmps212
 go_wp2_with fail
 generalize (w.alloc (.cells #[.int .i64 x.room,.slice x.a x.ps.length x.c] 38)).alloc (.cells #[.int .i64 0,.slice none 0 0] 38)=W at *
 refine(zu SY).mono ?_
 rintro e u9 ⟨z,hz',rfl,oz,b9⟩
 have WZ:=zh ((zu G0).1.step b9)
 have R9:=zh ((zu G0).2.below b9 (zu G0).2.lt.2)
 have OZ:=zh oz
 have HZ:=zh hz'
 have lw:=(zu G0).2.lt.2
 clear c0 c1 lt SY b9 oz hz'
 have EN:=zh (endedD (zu WZ).b (zu R9) (zu OZ) (by omega))
 have f0:=(zu R9).free 0
 have f1:=(zu R9).free 1
 have r0:=(zu R9).c0
 have r1:=(zu R9).c1
 go_wp2
 refine bodyPost_ret (v:= .tuple #[.agg #[.int .i64 z.room,.slice z.a z.ps.length z.c],.int .i64 0]) (by simp[results,Tryz.results212,go_sem,r0,r1]) rfl ?_
 exact⟨z,zu HZ,rfl,(zu EN).1,(zu EN).2⟩
def stepF(k:Int):FuncId:=if k=0 then 209 else if k=1 then 210 else if k=2 then 211 else 212
theorem iAtNo(w:World)(k:Int)(h:¬(0≤k∧k≤3)):Calls Tryz.prog 171 #[.int .i64 k] w fun e w'=>e= .returned .nilFunc∧Below w.heap.size w w':=by
 have sf:∀(w:World) (a:Addr) (i:FuncId) (m),(store a (.func (.func i) #[] #[]) m).run Tryz.prog w=stored Tryz.prog w a (.func (.func i) #[] #[]) m:=fun w a i m=>run_store Tryz.prog w a _ m rfl
 have sn:∀(w:World) (a:Addr) (m),(store a .nilFunc m).run Tryz.prog w=stored Tryz.prog w a .nilFunc m:=fun w a m=>run_store Tryz.prog w a _ m rfl
 by_cases h0:k<0
 ·go_enter Tryz.func171,Tryz.ntmps171
  go_wp2
  go_ret
  exact⟨rfl,one_more w _⟩
 ·have h4:k≥4:=by omega
  clear h
  go_enter Tryz.func171,Tryz.ntmps171
  go_wp2
  go_ret
  exact⟨rfl,one_more w _⟩
theorem iAtYes(w:World)(k:Int)(h:0≤k∧k≤3):Calls Tryz.prog 171 #[.int .i64 k] w fun e w'=>e= .returned (.func (.func (stepF k)) #[] #[])∧Below w.heap.size w w':=by
 have sf:∀(w:World) (a:Addr) (i:FuncId) (m),(store a (.func (.func i) #[] #[]) m).run Tryz.prog w=stored Tryz.prog w a (.func (.func i) #[] #[]) m:=fun w a i m=>run_store Tryz.prog w a _ m rfl
 have sn:∀(w:World) (a:Addr) (m),(store a .nilFunc m).run Tryz.prog w=stored Tryz.prog w a .nilFunc m:=fun w a m=>run_store Tryz.prog w a _ m rfl
 have K:k=0∨k=1∨k=2∨k=3:=by omega
 clear h
 rcases K with rfl|rfl|rfl|rfl
 ·go_enter Tryz.func171,Tryz.ntmps171
  go_wp2
  go_ret
  exact⟨rfl,one_more w _⟩
 ·go_enter Tryz.func171,Tryz.ntmps171
  go_wp2
  go_ret
  exact⟨rfl,one_more w _⟩
 ·go_enter Tryz.func171,Tryz.ntmps171
  go_wp2
  go_ret
  exact⟨rfl,one_more w _⟩
 ·go_enter Tryz.func171,Tryz.ntmps171
  go_wp2
  go_ret
  exact⟨rfl,one_more w _⟩
theorem enStep(k:Int)(args:Array Value)(u:World):(callFunc (stepF k) args).run Tryz.prog u= .ok (.enter (stepF k) args) u:=by
 unfold stepF
 split
 ·exact IRead.enters Tryz.func209 (by kernel_rfl) rfl _ _
 ·split
  ·exact IRead.enters Tryz.func210 (by kernel_rfl) rfl _ _
  ·split
   ·exact IRead.enters Tryz.func211 (by kernel_rfl) rfl _ _
   ·exact IRead.enters Tryz.func212 (by kernel_rfl) rfl _ _
theorem iStepF(w:World)(x:Dx)(t:ByteArray)(k:Int)(hr:RdD w x)(hz:sumZ x.ps≤1048576)(ok:OkD x.room x.ps)(ht:t.size≤9223372036854775807):Calls Tryz.prog (stepF k) #[.agg #[.int .i64 x.room,.slice x.a x.ps.length x.c],.string t] w (ToldD (rawD x.room x.ps t k) w):=by
 unfold stepF rawD
 split
 ·exact iWriteNew w x t hr hz ok ht
 ·split
  ·exact iSyncNew w x t hr hz
  ·split
   ·exact iMoveNew w x t hr hz
   ·exact iClearSegs w x t hr hz
end IFour16
end Go.Proofs.YtlbgfdpcgpijhaaGreat
