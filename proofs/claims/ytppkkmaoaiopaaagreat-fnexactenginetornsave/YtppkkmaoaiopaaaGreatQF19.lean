/- Lemmas. -/
import Derived.Test.YtppkkmaoaiopaaaGreatQF18
open Go.ChangeShapes Go.WideShapes Go.ChangeAt Go.RowKit
set_option linter.unusedVariables false
set_option linter.unusedSimpArgs false
set_option maxRecDepth 100000
set_option maxHeartbeats 32000000
namespace Go.Proofs.YtppkkmaoaiopaaaGreat
namespace SAppend14
open Fil14 OpensF14 DiskH14 DkH14 SDk14 SOk14 SRd14 App14 SLess14 SCopy14 SRef14 SCom14 SPut14
open DkH14 (row_step)
def appF(ps:List TF)(nm:Int)(s:ByteArray):TF:=if 0≤findF ps nm then((elF ps (findF ps nm).toNat).1,(elF ps (findF ps nm).toNat).2.1,(elF ps (findF ps nm).toNat).2.2++s) else(nm,⟨#[]⟩,s)
noncomputable def appendD (room:Int) (ps:List TF) (nm:Int) (s:ByteArray):(Int×List TF)×Int:= @ite _ (OkD room ps∧okN nm=true) (Classical.propDecidable _) (if room-sumZ ps<s.size then((room,ps),3) else((room,putF ps (appF ps nm s)),0)) ((0,[]),1)
theorem sDiskAppend(w:World)(x:Dx)(nm:Int)(s:ByteArray)(hr:RdD w x)(hz:sumZ x.ps≤1048576)(hs:s.size≤9223372036854775807):
  Calls Tryz.prog 43 #[.agg #[.int .i64 x.room,.slice x.a x.ps.length x.c],.int .i64 nm,.string s] w (ToldD (appendD x.room x.ps nm s) w):=by
 have HR:=zh hr
 have G0:=zh (begunD hr)
 have s2:((w.alloc (.cells #[.int .i64 x.room,.slice x.a x.ps.length x.c] 37)).alloc (.cells #[.int .i64 0,.slice none 0 0] 37)).heap.size=w.heap.size+2:=by simp
 have OK0:=zh (sDiskOk _ x (zu G0).1.r hz)
 have NM:=zh (fun u=>sName u nm)
 have RE:=zh (show appendD x.room x.ps nm s= @ite _ (OkD x.room x.ps∧okN nm=true) (Classical.propDecidable _) (if x.room-sumZ x.ps<s.size then((x.room,x.ps),3) else((x.room,putF x.ps (appF x.ps nm s)),0)) ((0,[]),1) from rfl)
 generalize appendD x.room x.ps nm s=rr at *
 clear hr
 by_cases ok:OkD x.room x.ps
 case neg=>
  have E:=zh (show rr=((0,[]),1) by rw[zu RE,if_neg (fun h=>ok h.1)])
  have OK:=zh (show Calls Tryz.prog 35 #[.agg #[.int .i64 x.room,.slice x.a x.ps.length x.c]] _ fun e w'=>e= .returned (.bool false)∧Below _ _ w' by have:=zu OK0;rw[decide_eq_false ok] at this;exact this)
  clear OK0 ok RE
  go_enter Tryz.func43,Tryz.ntmps43
  go_wp2_with fail
  refine(zu OK).mono ?_
  rintro e u ⟨rfl,b1⟩
  have R2:=zh ((zu G0).2.below b1 (by omega))
  have EN:=zh (endedD (y:=⟨0,none,0,[]⟩) (base0:=w.heap.size+2) (((zu G0).1.step b1).b) (zu R2) ⟨rfl,.inl ⟨rfl,rfl⟩⟩ (by omega))
  have f0:=(zu R2).free 0
  have f1:=(zu R2).free 1
  have r0:=(zu R2).c0
  have r1:=(zu R2).c1
  clear b1
  go_wp2
  refine bodyPost_ret (v:= .tuple #[.agg #[.int .i64 0,.slice none 0 0],.int .i64 1]) (by simp[results,Tryz.results43,go_sem,r0,r1]) rfl ?_
  rw[zu E]
  exact⟨⟨0,none,0,[]⟩,rfl,rfl,(zu EN).1,(zu EN).2⟩
 have OK:=zh (show Calls Tryz.prog 35 #[.agg #[.int .i64 x.room,.slice x.a x.ps.length x.c]] _ fun e w'=>e= .returned (.bool true)∧Below _ _ w' by have:=zu OK0;rw[decide_eq_true ok] at this;exact this)
 clear OK0
 have OKH:=zh ok
 cases okn:okN nm with
 |false=>
  have E:=zh (show rr=((0,[]),1) by rw[zu RE,if_neg (fun h=>by rw[okn] at h;simp at h)])
  rw[okn] at NM
  clear RE ok
  go_enter Tryz.func43,Tryz.ntmps43
  go_wp2_with fail
  refine(zu OK).mono ?_
  rintro e u0 ⟨rfl,b1⟩
  have R2:=zh ((zu G0).2.below b1 (by omega))
  have EN:=zh (endedD (y:=⟨0,none,0,[]⟩) (base0:=w.heap.size+2) (((zu G0).1.step b1).b) (zu R2) ⟨rfl,.inl ⟨rfl,rfl⟩⟩ (by omega))
  clear b1
  go_wp2_with fail
  refine((zu NM) u0).mono ?_
  rintro e u ⟨rfl,rfl⟩
  have f0:=(zu R2).free 0
  have f1:=(zu R2).free 1
  have r0:=(zu R2).c0
  have r1:=(zu R2).c1
  go_wp2
  refine bodyPost_ret (v:= .tuple #[.agg #[.int .i64 0,.slice none 0 0],.int .i64 1]) (by simp[results,Tryz.results43,go_sem,r0,r1]) rfl ?_
  rw[zu E]
  exact⟨⟨0,none,0,[]⟩,rfl,rfl,(zu EN).1,(zu EN).2⟩
 |true=>
  rw[okn] at NM
  obtain⟨b,hb⟩:∃b,decide (x.room-(sumZ x.ps:Int)<(s.size:Int))=b:=⟨_,rfl⟩
  have HB:=zh hb
  have z0:=ok.1
  have z1:=ok.2.2.1
  have wr1:wrap64 (x.room-(sumZ x.ps:Int))=x.room-(sumZ x.ps:Int):=by rw[wrap64];omega
  have wr2:IntKind.i64.wrap (x.room-(sumZ x.ps:Int))=x.room-(sumZ x.ps:Int):=by rw[IntKind.wrap_i64];omega
  go_enter Tryz.func43,Tryz.ntmps43
  go_wp2_with fail
  generalize (w.alloc (.cells #[.int .i64 x.room,.slice x.a x.ps.length x.c] 37)).alloc (.cells #[.int .i64 0,.slice none 0 0] 37)=W at *
  refine(zu OK).mono ?_
  rintro e u0 ⟨rfl,b1⟩
  have W1:=zh ((zu G0).1.step b1)
  have R1:=zh ((zu G0).2.below b1 (by omega))
  have us:=b1.size
  clear b1 OK G0
  go_wp2_with fail
  refine((zu NM) u0).mono ?_
  rintro e u ⟨rfl,rfl⟩
  clear NM
  have c0:=(zu W1).c0
  have c1:=(zu W1).c1
  have K0:u.cell? ⟨w.heap.size,0,none⟩=some (.int .i64 x.room)∧u.cell? ⟨w.heap.size,1,none⟩=some (.slice x.a x.ps.length x.c):=⟨c0,c1⟩
  go_wp2_with fail
  refine wp_region_held_drew (S:=(fun w'=>w'.cell? ⟨w.heap.size,0,none⟩=some (.int .i64 x.room)∧w'.cell? ⟨w.heap.size,1,none⟩=some (.slice x.a x.ps.length x.c))) (by kernel_rfl) K0 (fun hHeld=>?_)
  refine zT 0 21 (.string s) rfl hHeld ?_
  refine zT 1 22 (.int .i64 s.size) rfl hHeld ?_
  refine zT 2 23 (.pointer (some ⟨w.heap.size,0,none⟩)) rfl hHeld ?_
  refine zT 3 24 (.int .i64 x.room) rfl hHeld ?_
  refine zT 4 25 (.agg #[.int .i64 x.room,.slice x.a x.ps.length x.c]) rfl hHeld ?_
  try simp only[Act.put,zA,zB,zC]
  refine zR 5 rfl (fun K hK=>?_)
  go_simp
  go_wp2_with fail
  refine(sSize u.drew x (zu W1).drew.r hz).mono ?_
  rintro e v ⟨rfl,bb⟩
  have bb1:Below u.heap.size u v:=⟨bb.os,bb.tape,bb.output,bb.size,bb.block⟩
  have W4:=zh ((zu W1).step bb1)
  have R4:=zh ((zu R1).below bb1 (zu R1).lt.2)
  have K1:v.cell? ⟨w.heap.size,0,none⟩=some (.int .i64 x.room)∧v.cell? ⟨w.heap.size,1,none⟩=some (.slice x.a x.ps.length x.c):=⟨(zu W4).c0,(zu W4).c1⟩
  have vs:=bb1.size
  clear bb bb1
  go_wp2_with fail
  refine hK.out _ _ K1 (fun hHeld=>?_)
  clear hK K
  refine zT 6 27 (.int .i64 (x.room-sumZ x.ps)) rfl hHeld ?_
  refine zT 7 28 (.bool b) rfl hHeld ?_
  refine zT 8 20 (.bool b) rfl hHeld ?_
  try simp only[Act.put,zA,zB,zC]
  refine wpAnyH_done (by kernel_rfl) ?_ _
  clear c0 c1 hb wr1 wr2 z0 z1
  have W5:=W4
  have R5:=R4
  cases b with
  |true=>
   have E:=zh (show rr=((x.room,x.ps),3) by rw[zu RE,if_pos ⟨ok,okn⟩,if_pos (by simpa using zu HB)])
   have d0:=(zu W4).c0
   have d1:=(zu W4).c1
   clear K0 K1
   go_wp2_with fail
   refine(sCopy _ x (zu W5).r).mono ?_
   rintro e u2 ⟨y,yr,yp,rfl,oy,b2⟩
   have HY:=zh (show(y.room,y.ps)=(x.room,x.ps) by rw[yr,yp])
   have R2:=zh ((zu R5).below b2 (zu R5).lt.2)
   have EN:=zh (endedD ((zu W5).b.trans (b2.mono (zu W5).b.size)) (zu R2) oy (zu R5).lt.2)
   have f0:=(zu R2).free 0
   have f1:=(zu R2).free 1
   have r0:=(zu R2).c0
   have r1:=(zu R2).c1
   clear b2 oy yr yp d0 d1
   go_wp2
   refine bodyPost_ret (v:= .tuple #[.agg #[.int .i64 y.room,.slice y.a y.ps.length y.c],.int .i64 3]) (by simp[results,Tryz.results43,go_sem,r0,r1]) rfl ?_
   rw[zu E]
   exact⟨y,zu HY,rfl,(zu EN).1,(zu EN).2⟩
  |false=>
   have RE2:=zh (show rr=((x.room,putF x.ps (appF x.ps nm s)),0) by rw[zu RE,if_pos ⟨ok,okn⟩,if_neg (by have:=zu HB;simpa using this)])
   have sr:(s.size:Int)≤x.room-sumZ x.ps:=by have:=zu HB;simpa using this
   clear RE HB
   obtain⟨V3,hV3⟩:∃V3,Hid (V3=v.alloc (.cells #[.int .i64 nm,.string ⟨#[]⟩,.string ⟨#[]⟩] 81)):=⟨_,rfl⟩
   have b3:=zh (show Below v.heap.size v V3 by rw[zu hV3];exact one_more _ _)
   have W6:=zh ((zu W5).step (zu b3))
   have R6:=zh ((zu R5).below (zu b3) (zu R5).lt.2)
   have F6:=zh (show OwnF 81 V3 w.heap.size v.heap.size 1 1 [(nm,⟨#[]⟩,⟨#[]⟩)] by rw[zu hV3];exact litF1 _ _ _ _ _ _ (by have:=(zu W5).lt;omega))
   have d0:=(zu W6).c0
   have d1:=(zu W6).c1
   have e0:v.cell? ⟨w.heap.size,0,none⟩=some (.int .i64 x.room):=(zu W5).c0
   have e1:v.cell? ⟨w.heap.size,1,none⟩=some (.slice x.a x.ps.length x.c):=(zu W5).c1
   have wl:=(zu W5).lt
   go_wp2_with fail
   rw[←zu hV3]
   clear e0 e1 hV3
   refine(sFind V3 x nm (zu W6).r).mono ?_
   rintro e u3 ⟨rfl,b4⟩
   have W7:=zh ((zu W6).step b4)
   have R7:=zh ((zu R6).below b4 (zu R6).lt.2)
   have F7:=zh ((zu F6).below b4 (by have:=(zu F6).lt;omega))
   have v7:=b4.size
   have fl:=(zu F6).lt
   clear b4 W6 R6 F6 d0 d1
   have FI:=zh (findF_in (ps:=x.ps) (nm:=nm))
   have RF:=zh (show appF x.ps nm s=if 0≤findF x.ps nm then((elF x.ps (findF x.ps nm).toNat).1,(elF x.ps (findF x.ps nm).toNat).2.1,(elF x.ps (findF x.ps nm).toNat).2.2++s) else(nm,⟨#[]⟩,s) from rfl)
   generalize appF x.ps nm s=ff at *
   generalize findF x.ps nm=fi at *
   have q0:u3.cell? ⟨v.heap.size,0,none⟩=some (.int .i64 nm):=((zu F7).at 0 (by simp)).1
   have q1:u3.cell? ⟨v.heap.size,1,none⟩=some (.string ⟨#[]⟩):=((zu F7).at 0 (by simp)).2.1
   have q2:u3.cell? ⟨v.heap.size,2,none⟩=some (.string ⟨#[]⟩):=((zu F7).at 0 (by simp)).2.2
   have x0:=(zu F7).free 0
   have x1:=(zu F7).free 1
   have x2:=(zu F7).free 2
   have z60:=ok.1.2
   by_cases fn:0≤fi
   ·obtain⟨k,rfl,kl,en⟩:=(zu FI) fn
    have kt:(k:Int)<x.ps.length:=by omega
    obtain⟨g,ea,lg,h0,h1,h2⟩:=cells_of (zu W7).r kl
    have ix:=ixF x.c ea kl
    have NX:=sumZ_next kl
    have LE:=sumZ_le x.ps (k+1)
    have ES:=zh (show ff=((elF x.ps k).1,(elF x.ps k).2.1,(elF x.ps k).2.2++s) by rw[zu RF,if_pos fn];rfl)
    have s1:(elF x.ps k).2.1.size+(elF x.ps k).2.2.size≤1048576:=by omega
    clear FI RF en ea NX LE
    generalize (elF x.ps k).1=z0 at *
    generalize (elF x.ps k).2.1=z1 at *
    generalize (elF x.ps k).2.2=z2 at *
    have s3:z2.size+s.size≤9223372036854775807:=by omega
    obtain⟨o1,g1⟩:=(zu F7).set0 0 z0
    obtain⟨o2,g2⟩:=o1.set1 0 z1
    obtain⟨o3,g3⟩:=o2.set2 0 z2
    obtain⟨o4,g4⟩:=o3.set2 0 (z2++s)
    have GG:=zh (grow_grow (grow_grow (grow_grow g1 g2) g3) g4)
    have q3:(((u3.setCell ⟨v.heap.size,0,none⟩ (.int .i64 z0)).setCell ⟨v.heap.size,1,none⟩ (.string z1)).setCell ⟨v.heap.size,2,none⟩ (.string z2)).cell? ⟨v.heap.size,2,none⟩=some (.string z2):=(o3.at 0 (by simp)).2.2
    have d0:=(zu W7).c0
    have d1:=(zu W7).c1
    have B7:=zh (grow_low (zu W7).b (zu GG) ⟨by omega,(zu W7).b.size⟩)
    have W5:=zh (show Wd w ((((u3.setCell ⟨v.heap.size,0,none⟩ (.int .i64 z0)).setCell ⟨v.heap.size,1,none⟩ (.string z1)).setCell ⟨v.heap.size,2,none⟩ (.string z2)).setCell ⟨v.heap.size,2,none⟩ (.string (z2++s))) x from⟨(kcell (zu GG) 0 (zu W7).lt (by omega)).trans d0,(kcell (zu GG) 1 (zu W7).lt (by omega)).trans d1,Nat.lt_of_lt_of_le (zu W7).lt (zu GG).size,zu B7,(zu HR).below (zu B7)⟩)
    have R5:=zh (show Bc ((((u3.setCell ⟨v.heap.size,0,none⟩ (.int .i64 z0)).setCell ⟨v.heap.size,1,none⟩ (.string z1)).setCell ⟨v.heap.size,2,none⟩ (.string z2)).setCell ⟨v.heap.size,2,none⟩ (.string (z2++s))) w.heap.size (w.heap.size+1) (.int .i64 0) (.slice none 0 0) from(zu R7).kept (zu GG) (by simp;omega))
    have gsz:=(zu GG).size
    clear o1 o2 o3 o4 g1 g2 g3 g4
    go_wp2_with fail
    refine(sPut _ x z0 z1 (z2++s) (zu W5).r ok.2.1).mono ?_
    rintro e u2 ⟨y,yr,yp,rfl,oy,b2⟩
    have E:=RE2
    have HY:=zh (show(y.room,y.ps)=(x.room,putF x.ps ff) by rw[yr,yp,zu ES])
    have R2:=zh ((zu R5).below b2 (zu R5).lt.2)
    have EN:=zh (endedD ((zu W5).b.trans (b2.mono (zu W5).b.size)) (zu R2) oy (zu R5).lt.2)
    have f0:=(zu R2).free 0
    have f1:=(zu R2).free 1
    have r0:=(zu R2).c0
    have r1:=(zu R2).c1
    clear b2 oy yr yp
    go_wp2
    refine bodyPost_ret (v:= .tuple #[.agg #[.int .i64 y.room,.slice y.a y.ps.length y.c],.int .i64 0]) (by simp[results,Tryz.results43,go_sem,r0,r1]) rfl ?_
    rw[zu E]
    exact⟨y,zu HY,rfl,(zu EN).1,(zu EN).2⟩
   ·have ES:=zh (show ff=(nm,⟨#[]⟩,s) by rw[zu RF,if_neg fn])
    clear FI RF
    have s3:s.size≤9223372036854775807:=by omega
    obtain⟨o3,g3⟩:=(zu F7).set2 0 s
    have GG:=zh g3
    have d0:=(zu W7).c0
    have d1:=(zu W7).c1
    have B7:=zh (grow_low (zu W7).b (zu GG) ⟨by omega,(zu W7).b.size⟩)
    have W5:=zh (show Wd w (u3.setCell ⟨v.heap.size,2,none⟩ (.string s)) x from⟨(kcell (zu GG) 0 (zu W7).lt (by omega)).trans d0,(kcell (zu GG) 1 (zu W7).lt (by omega)).trans d1,Nat.lt_of_lt_of_le (zu W7).lt (zu GG).size,zu B7,(zu HR).below (zu B7)⟩)
    have R5:=zh (show Bc (u3.setCell ⟨v.heap.size,2,none⟩ (.string s)) w.heap.size (w.heap.size+1) (.int .i64 0) (.slice none 0 0) from(zu R7).kept (zu GG) (by simp;omega))
    have gsz:=(zu GG).size
    clear o3 g3
    go_wp2_with fail
    refine(sPut _ x nm ⟨#[]⟩ s (zu W5).r ok.2.1).mono ?_
    rintro e u2 ⟨y,yr,yp,rfl,oy,b2⟩
    have E:=RE2
    have HY:=zh (show(y.room,y.ps)=(x.room,putF x.ps ff) by rw[yr,yp,zu ES])
    have R2:=zh ((zu R5).below b2 (zu R5).lt.2)
    have EN:=zh (endedD ((zu W5).b.trans (b2.mono (zu W5).b.size)) (zu R2) oy (zu R5).lt.2)
    have f0:=(zu R2).free 0
    have f1:=(zu R2).free 1
    have r0:=(zu R2).c0
    have r1:=(zu R2).c1
    clear b2 oy yr yp
    go_wp2
    refine bodyPost_ret (v:= .tuple #[.agg #[.int .i64 y.room,.slice y.a y.ps.length y.c],.int .i64 0]) (by simp[results,Tryz.results43,go_sem,r0,r1]) rfl ?_
    rw[zu E]
    exact⟨y,zu HY,rfl,(zu EN).1,(zu EN).2⟩
end SAppend14
namespace SSync14
open Fil14 OpensF14 DiskH14 DkH14 SDk14 SOk14 SRd14 App14 SLess14 SCopy14 SRef14 SCom14 SPut14
def syncD(room:Int)(ps:List TF)(nm:Int):(Int×List TF)×Int:=if(atD room ps nm).2=0 then((room,putF ps (nm,bytesAt ps (atD room ps nm).1.toNat,ByteArray.empty)),0) else(refD (atD room ps nm).2 room ps,(atD room ps nm).2)
theorem sDiskSync(w:World)(x:Dx)(nm:Int)(hr:RdD w x)(hz:sumZ x.ps≤1048576):
  Calls Tryz.prog 45 #[.agg #[.int .i64 x.room,.slice x.a x.ps.length x.c],.int .i64 nm] w (ToldD (syncD x.room x.ps nm) w):=by
 have G0:=zh (begunD hr)
 have s2:((w.alloc (.cells #[.int .i64 x.room,.slice x.a x.ps.length x.c] 37)).alloc (.cells #[.int .i64 0,.slice none 0 0] 37)).heap.size=w.heap.size+2:=by simp
 have AT:=zh (sAt _ x nm (zu G0).1.r hz)
 have AI:=zh (at_in (room:=x.room) (ps:=x.ps) (nm:=nm))
 have RE:=zh (show syncD x.room x.ps nm=if(atD x.room x.ps nm).2=0 then((x.room,putF x.ps (nm,bytesAt x.ps (atD x.room x.ps nm).1.toNat,ByteArray.empty)),0) else(refD (atD x.room x.ps nm).2 x.room x.ps,(atD x.room x.ps nm).2) from rfl)
 generalize syncD x.room x.ps nm=rr at *
 generalize atD x.room x.ps nm=at' at *
 obtain⟨k0,c⟩:=at'
 clear hr
 go_enter Tryz.func45,Tryz.ntmps45
 go_wp2_with fail
 generalize (w.alloc (.cells #[.int .i64 x.room,.slice x.a x.ps.length x.c] 37)).alloc (.cells #[.int .i64 0,.slice none 0 0] 37)=W at *
 refine(zu AT).mono ?_
 rintro e u ⟨rfl,b1⟩
 have W1:=zh ((zu G0).1.step b1)
 have R1:=zh ((zu G0).2.below b1 (by omega))
 have us:=b1.size
 clear b1 AT G0
 have c0:=(zu W1).c0
 have c1:=(zu W1).c1
 have lt:=(zu W1).lt
 by_cases q:c=0
 case neg=>
  have E:=zh (show rr=(refD c x.room x.ps,c) by rw[zu RE,if_neg q])
  have qb:(c !=0)=true:=by simpa using q
  clear RE AI q
  go_wp2_with fail
  refine(sRefused u x c (zu W1).r).mono ?_
  rintro e u2 ⟨y,hy,rfl,oy,b2⟩
  have R2:=zh ((zu R1).below b2 (zu R1).lt.2)
  have EN:=zh (endedD ((zu W1).b.trans (b2.mono (zu W1).b.size)) (zu R2) oy (by omega))
  have HY:=zh hy
  have f0:=(zu R2).free 0
  have f1:=(zu R2).free 1
  have r0:=(zu R2).c0
  have r1:=(zu R2).c1
  clear b2 oy hy c0 c1 lt W1 R1
  go_wp2
  refine bodyPost_ret (v:= .tuple #[.agg #[.int .i64 y.room,.slice y.a y.ps.length y.c],.int .i64 c]) (by simp[results,Tryz.results45,go_sem,r0,r1]) rfl ?_
  rw[zu E]
  exact⟨y,zu HY,rfl,(zu EN).1,(zu EN).2⟩
 subst q
 obtain⟨ok,okn,k,rfl,kl,en⟩:=(zu AI) rfl
 have E:=zh (show rr=((x.room,putF x.ps (nm,bytesAt x.ps k,ByteArray.empty)),0) by rw[zu RE,if_pos rfl];rfl)
 have h22:=ok.2.1
 have kt:(k:Int)<x.ps.length:=by omega
 obtain⟨g,ea,lg,d0,d1,d2⟩:=cells_of (zu W1).r kl
 have ix:=ixF x.c ea kl
 have ES:=zh (show bytesAt x.ps k=(elF x.ps k).2.1++(elF x.ps k).2.2 from rfl)
 have NX:=sumZ_next kl
 have LE:=sumZ_le x.ps (k+1)
 have s1:(elF x.ps k).2.1.size+(elF x.ps k).2.2.size≤1048576:=by omega
 clear RE AI ok okn en ea NX LE
 generalize (elF x.ps k).1=z0 at *
 generalize (elF x.ps k).2.1=z1 at *
 generalize (elF x.ps k).2.2=z2 at *
 have W3:=zh ((zu W1).step (one_more u (.cells #[.int .i64 z0,.string z1,.string z2] 81)))
 have R3:=zh ((zu R1).below (one_more u (.cells #[.int .i64 z0,.string z1,.string z2] 81)) (zu R1).lt.2)
 go_wp2_with fail
 refine(sPut _ x nm (z1++z2) ByteArray.empty (zu W3).r h22).mono ?_
 rintro e u2 ⟨y,hy0,hy,rfl,oy,b2⟩
 have R2:=zh ((zu R3).below b2 (zu R3).lt.2)
 have EN:=zh (endedD ((zu W3).b.trans (b2.mono (zu W3).b.size)) (zu R2) oy (by simp;omega))
 have HY:=zh (show(y.room,y.ps)=(x.room,putF x.ps (nm,bytesAt x.ps k,ByteArray.empty)) by rw[hy0,hy,zu ES])
 have f0:=(zu R2).free 0
 have f1:=(zu R2).free 1
 have r0:=(zu R2).c0
 have r1:=(zu R2).c1
 clear b2 oy hy hy0 c0 c1 lt W1 R1 W3 R3 d0 d1 d2 ix s1
 go_wp2
 refine bodyPost_ret (v:= .tuple #[.agg #[.int .i64 y.room,.slice y.a y.ps.length y.c],.int .i64 0]) (by simp[results,Tryz.results45,go_sem,r0,r1]) rfl ?_
 rw[zu E]
 exact⟨y,zu HY,rfl,(zu EN).1,(zu EN).2⟩
end SSync14
namespace SMove14
open Fil14 OpensF14 DiskH14 DkH14 SDk14 SOk14 SRd14 App14 SLess14 SCopy14 SRef14 SCom14 SPut14
def moveD(room:Int)(ps:List TF)(nm to:Int):(Int×List TF)×Int:=if okN to=true∧nm≠to then(if(atD room ps nm).2=0 then((room,putF (lessN ps (atD room ps nm).1 ps.length) (to,(elF ps (atD room ps nm).1.toNat).2.1,(elF ps (atD room ps nm).1.toNat).2.2)),0) else(refD (atD room ps nm).2 room ps,(atD room ps nm).2)) else(refD 1 room ps,1)
theorem less_len(ps:List TF)(nm:Int):∀n,(lessN ps nm n).length≤n
 |0=>by simp[lessN]
 |n+1=>by
  have:=less_len ps nm n
  simp only[lessN]
  split<;>simp<;>omega
theorem sDiskMove(w:World)(x:Dx)(nm to:Int)(hr:RdD w x)(hz:sumZ x.ps≤1048576):
  Calls Tryz.prog 46 #[.agg #[.int .i64 x.room,.slice x.a x.ps.length x.c],.int .i64 nm,.int .i64 to] w (ToldD (moveD x.room x.ps nm to) w):=by
 have G0:=zh (begunD hr)
 have s2:((w.alloc (.cells #[.int .i64 x.room,.slice x.a x.ps.length x.c] 37)).alloc (.cells #[.int .i64 0,.slice none 0 0] 37)).heap.size=w.heap.size+2:=by simp
 have AT:=zh (sAt _ x nm (zu G0).1.r hz)
 have AI:=zh (at_in (room:=x.room) (ps:=x.ps) (nm:=nm))
 have NM:=zh (fun u=>sName u to)
 have RE:=zh (show moveD x.room x.ps nm to=if okN to=true∧nm≠to then(if(atD x.room x.ps nm).2=0 then((x.room,putF (lessN x.ps (atD x.room x.ps nm).1 x.ps.length) (to,(elF x.ps (atD x.room x.ps nm).1.toNat).2.1,(elF x.ps (atD x.room x.ps nm).1.toNat).2.2)),0) else(refD (atD x.room x.ps nm).2 x.room x.ps,(atD x.room x.ps nm).2)) else(refD 1 x.room x.ps,1) from rfl)
 generalize moveD x.room x.ps nm to=rr at *
 generalize atD x.room x.ps nm=at' at *
 obtain⟨k0,c⟩:=at'
 generalize okN to=bt at *
 clear hr
 go_enter Tryz.func46,Tryz.ntmps46
 go_wp2_with fail
 generalize (w.alloc (.cells #[.int .i64 x.room,.slice x.a x.ps.length x.c] 37)).alloc (.cells #[.int .i64 0,.slice none 0 0] 37)=W at *
 refine(zu AT).mono ?_
 rintro e u0 ⟨rfl,b1⟩
 have W1:=zh ((zu G0).1.step b1)
 have R1:=zh ((zu G0).2.below b1 (by omega))
 have us:=b1.size
 clear b1 AT G0
 have c0:=(zu W1).c0
 have c1:=(zu W1).c1
 have lt:=(zu W1).lt
 go_wp2_with fail
 refine((zu NM) u0).mono ?_
 rintro e u ⟨rfl,rfl⟩
 clear NM
 cases bt with
 |false=>
  have E:=zh (show rr=(refD 1 x.room x.ps,1) by rw[zu RE,if_neg (fun h=>by simp at h)])
  clear RE AI
  go_wp2_with fail
  refine(sRefused u x (1) (zu W1).r).mono ?_
  rintro e u2 ⟨y,hy,rfl,oy,b2⟩
  have R2:=zh ((zu R1).below b2 (zu R1).lt.2)
  have EN:=zh (endedD ((zu W1).b.trans (b2.mono (zu W1).b.size)) (zu R2) oy (by omega))
  have HY:=zh hy
  have f0:=(zu R2).free 0
  have f1:=(zu R2).free 1
  have r0:=(zu R2).c0
  have r1:=(zu R2).c1
  clear b2 oy hy c0 c1 lt W1 R1
  go_wp2
  refine bodyPost_ret (v:= .tuple #[.agg #[.int .i64 y.room,.slice y.a y.ps.length y.c],.int .i64 (1)]) (by simp[results,Tryz.results46,go_sem,r0,r1]) rfl ?_
  rw[zu E]
  exact⟨y,zu HY,rfl,(zu EN).1,(zu EN).2⟩
 |true=>
  by_cases qt:nm=to
  ·have E:=zh (show rr=(refD 1 x.room x.ps,1) by rw[zu RE,if_neg (fun h=>h.2 qt)])
   have qtb:(nm==to)=true:=by simpa using qt
   clear RE AI qt
   go_wp2_with fail
   refine(sRefused u x (1) (zu W1).r).mono ?_
   rintro e u2 ⟨y,hy,rfl,oy,b2⟩
   have R2:=zh ((zu R1).below b2 (zu R1).lt.2)
   have EN:=zh (endedD ((zu W1).b.trans (b2.mono (zu W1).b.size)) (zu R2) oy (by omega))
   have HY:=zh hy
   have f0:=(zu R2).free 0
   have f1:=(zu R2).free 1
   have r0:=(zu R2).c0
   have r1:=(zu R2).c1
   clear b2 oy hy c0 c1 lt W1 R1
   go_wp2
   refine bodyPost_ret (v:= .tuple #[.agg #[.int .i64 y.room,.slice y.a y.ps.length y.c],.int .i64 (1)]) (by simp[results,Tryz.results46,go_sem,r0,r1]) rfl ?_
   rw[zu E]
   exact⟨y,zu HY,rfl,(zu EN).1,(zu EN).2⟩
  have qtb:(nm==to)=false:=by simpa using qt
  have RE2:=zh (show rr=if c=0 then((x.room,putF (lessN x.ps k0 x.ps.length) (to,(elF x.ps k0.toNat).2.1,(elF x.ps k0.toNat).2.2)),0) else(refD c x.room x.ps,c) by rw[zu RE,if_pos ⟨rfl,qt⟩])
  clear RE qt
  by_cases q:c=0
  case neg=>
   have E:=zh (show rr=(refD c x.room x.ps,c) by rw[zu RE2,if_neg q])
   have qb:(c !=0)=true:=by simpa using q
   clear RE2 AI q
   go_wp2_with fail
   refine(sRefused u x (c) (zu W1).r).mono ?_
   rintro e u2 ⟨y,hy,rfl,oy,b2⟩
   have R2:=zh ((zu R1).below b2 (zu R1).lt.2)
   have EN:=zh (endedD ((zu W1).b.trans (b2.mono (zu W1).b.size)) (zu R2) oy (by omega))
   have HY:=zh hy
   have f0:=(zu R2).free 0
   have f1:=(zu R2).free 1
   have r0:=(zu R2).c0
   have r1:=(zu R2).c1
   clear b2 oy hy c0 c1 lt W1 R1
   go_wp2
   refine bodyPost_ret (v:= .tuple #[.agg #[.int .i64 y.room,.slice y.a y.ps.length y.c],.int .i64 (c)]) (by simp[results,Tryz.results46,go_sem,r0,r1]) rfl ?_
   rw[zu E]
   exact⟨y,zu HY,rfl,(zu EN).1,(zu EN).2⟩
  subst q
  obtain⟨ok,okn,k,rfl,kl,en⟩:=(zu AI) rfl
  have E:=zh (show rr=((x.room,putF (lessN x.ps k x.ps.length) (to,(elF x.ps k).2.1,(elF x.ps k).2.2)),0) by rw[zu RE2,if_pos rfl];rfl)
  have h22:=ok.2.1
  have LL:=zh (less_len x.ps k x.ps.length)
  have kt:(k:Int)<x.ps.length:=by omega
  obtain⟨g,ea,lg,d0,d1,d2⟩:=cells_of (zu W1).r kl
  have ix:=ixF x.c ea kl
  clear RE2 AI ok okn en ea
  generalize (elF x.ps k).1=z0 at *
  generalize (elF x.ps k).2.1=z1 at *
  generalize (elF x.ps k).2.2=z2 at *
  obtain⟨u3,hu3⟩:∃u3,Hid (u3=u.alloc (.cells #[.int .i64 to,.string z1,.string z2] 81)):=⟨_,rfl⟩
  have W3:=zh (show Wd w u3 x by rw[zu hu3];exact(zu W1).step (one_more _ _))
  have R3:=zh (show Bc u3 w.heap.size (w.heap.size+1) (.int .i64 0) (.slice none 0 0) by rw[zu hu3];exact(zu R1).below (one_more _ _) (zu R1).lt.2)
  have fb:u3.cell? ⟨u.heap.size,0,none⟩=some (.int .i64 to)∧u3.cell? ⟨u.heap.size,1,none⟩=some (.string z1)∧u3.cell? ⟨u.heap.size,2,none⟩=some (.string z2):=by rw[zu hu3];simp
  have s3:u3.heap.size=u.heap.size+1:=by rw[zu hu3];simp
  go_wp2_with fail
  rw[←zu hu3]
  clear c0 c1 lt W1 R1 d0 d1 d2 ix hu3
  obtain⟨b0,b1,b2⟩:=fb
  have c0:=(zu W3).c0
  have c1:=(zu W3).c1
  have K0:u3.cell? ⟨w.heap.size,0,none⟩=some (.int .i64 x.room)∧u3.cell? ⟨w.heap.size,1,none⟩=some (.slice x.a x.ps.length x.c)∧u3.cell? ⟨u.heap.size,0,none⟩=some (.int .i64 to)∧u3.cell? ⟨u.heap.size,1,none⟩=some (.string z1)∧u3.cell? ⟨u.heap.size,2,none⟩=some (.string z2):=⟨c0,c1,b0,b1,b2⟩
  refine wp_region_held_drew (S:=(fun w'=>w'.cell? ⟨w.heap.size,0,none⟩=some (.int .i64 x.room)∧w'.cell? ⟨w.heap.size,1,none⟩=some (.slice x.a x.ps.length x.c)∧w'.cell? ⟨u.heap.size,0,none⟩=some (.int .i64 to)∧w'.cell? ⟨u.heap.size,1,none⟩=some (.string z1)∧w'.cell? ⟨u.heap.size,2,none⟩=some (.string z2))) (by kernel_rfl) K0 (fun hHeld=>?_)
  refine zT 0 38 (.agg #[.int .i64 x.room,.slice x.a x.ps.length x.c]) rfl hHeld ?_
  refine zT 1 39 (.int .i64 k) rfl hHeld ?_
  refine zT 3 41 (.agg #[.int .i64 to,.string z1,.string z2]) rfl hHeld ?_
  try simp only[Act.put,zA,zB,zC]
  refine zR 2 rfl (fun K hK=>?_)
  go_simp
  go_wp2_with fail
  refine(sLess u3.drew x k (zu W3.drew).r).mono ?_
  rintro e v1 ⟨y,yr,yp,rfl,oy,bb⟩
  have bb1:Below u3.heap.size u3 v1:=⟨bb.os,bb.tape,bb.output,bb.size,bb.block⟩
  have W4:=zh ((zu W3).step bb1)
  have R4:=zh ((zu R3).below bb1 (zu R3).lt.2)
  have O4:=zh oy
  have HY1:=zh (And.intro yr yp)
  have K1:v1.cell? ⟨w.heap.size,0,none⟩=some (.int .i64 x.room)∧v1.cell? ⟨w.heap.size,1,none⟩=some (.slice x.a x.ps.length x.c)∧v1.cell? ⟨u.heap.size,0,none⟩=some (.int .i64 to)∧v1.cell? ⟨u.heap.size,1,none⟩=some (.string z1)∧v1.cell? ⟨u.heap.size,2,none⟩=some (.string z2):=⟨(zu W4).c0,(zu W4).c1,(bb1.cell (p:=⟨u.heap.size,0,none⟩) (show u.heap.size<u3.heap.size by omega)).trans b0,(bb1.cell (p:=⟨u.heap.size,1,none⟩) (show u.heap.size<u3.heap.size by omega)).trans b1,(bb1.cell (p:=⟨u.heap.size,2,none⟩) (show u.heap.size<u3.heap.size by omega)).trans b2⟩
  have vs:=bb1.size
  clear bb bb1 oy yr yp
  go_wp2_with fail
  refine hK.out _ _ K1 (fun hHeld=>?_)
  clear hK K
  try simp only[Act.put,zA,zB,zC]
  refine zR 4 rfl (fun K hK=>?_)
  go_simp
  go_wp2_with fail
  refine(sPut v1 y to z1 z2 (OwD.rd (zu O4) (by rw[(zu HY1).2];have:=zu LL;omega)) (by rw[(zu HY1).2];have:=zu LL;omega)).mono ?_
  rintro e v2 ⟨y2,yr2,yp2,rfl,oy2,bb2⟩
  have W5:=zh ((zu W4).step bb2)
  have R5:=zh ((zu R4).below bb2 (zu R4).lt.2)
  have vs2:=bb2.size
  have K2:v2.cell? ⟨w.heap.size,0,none⟩=some (.int .i64 x.room)∧v2.cell? ⟨w.heap.size,1,none⟩=some (.slice x.a x.ps.length x.c)∧v2.cell? ⟨u.heap.size,0,none⟩=some (.int .i64 to)∧v2.cell? ⟨u.heap.size,1,none⟩=some (.string z1)∧v2.cell? ⟨u.heap.size,2,none⟩=some (.string z2):=⟨(zu W5).c0,(zu W5).c1,(bb2.cell (p:=⟨u.heap.size,0,none⟩) (show u.heap.size<v1.heap.size by omega)).trans K1.2.2.1,(bb2.cell (p:=⟨u.heap.size,1,none⟩) (show u.heap.size<v1.heap.size by omega)).trans K1.2.2.2.1,(bb2.cell (p:=⟨u.heap.size,2,none⟩) (show u.heap.size<v1.heap.size by omega)).trans K1.2.2.2.2⟩
  have EN:=zh (endedD (zu W5).b (zu R5) oy2 (by have:=(zu W4).lt;omega))
  have HY2:=zh (show(y2.room,y2.ps)=(x.room,putF (lessN x.ps k x.ps.length) (to,z1,z2)) by rw[yr2,yp2,(zu HY1).1,(zu HY1).2])
  have f0:=(zu R5).free 0
  have f1:=(zu R5).free 1
  have r0:=(zu R5).c0
  have r1:=(zu R5).c1
  have wl:=(zu W5).lt
  have st:=grow_grow ((zu R5).set0 (.int .i64 y2.room)).2 (bc_set1 ((zu R5).set0 (.int .i64 y2.room)).1 (.slice y2.a y2.ps.length y2.c)).2
  have K3:((v2.setCell ⟨w.heap.size+1,0,none⟩ (.int .i64 y2.room)).setCell ⟨w.heap.size+1,1,none⟩ (.slice y2.a y2.ps.length y2.c)).cell? ⟨w.heap.size,0,none⟩=some (.int .i64 x.room)∧((v2.setCell ⟨w.heap.size+1,0,none⟩ (.int .i64 y2.room)).setCell ⟨w.heap.size+1,1,none⟩ (.slice y2.a y2.ps.length y2.c)).cell? ⟨w.heap.size,1,none⟩=some (.slice x.a x.ps.length x.c)∧((v2.setCell ⟨w.heap.size+1,0,none⟩ (.int .i64 y2.room)).setCell ⟨w.heap.size+1,1,none⟩ (.slice y2.a y2.ps.length y2.c)).cell? ⟨u.heap.size,0,none⟩=some (.int .i64 to)∧((v2.setCell ⟨w.heap.size+1,0,none⟩ (.int .i64 y2.room)).setCell ⟨w.heap.size+1,1,none⟩ (.slice y2.a y2.ps.length y2.c)).cell? ⟨u.heap.size,1,none⟩=some (.string z1)∧((v2.setCell ⟨w.heap.size+1,0,none⟩ (.int .i64 y2.room)).setCell ⟨w.heap.size+1,1,none⟩ (.slice y2.a y2.ps.length y2.c)).cell? ⟨u.heap.size,2,none⟩=some (.string z2):=⟨(kcell st 0 wl (by omega)).trans K2.1,(kcell st 1 wl (by omega)).trans K2.2.1,(kcell st 0 (g:=u.heap.size) (by omega) (by omega)).trans K2.2.2.1,(kcell st 1 (g:=u.heap.size) (by omega) (by omega)).trans K2.2.2.2.1,(kcell st 2 (g:=u.heap.size) (by omega) (by omega)).trans K2.2.2.2.2⟩
  clear bb2 oy2 yr2 yp2
  go_wp2_with fail
  refine hK.out _ _ K2 (fun hHeld=>?_)
  clear hK K
  try simp only[Act.put,zA,zB,zC]
  refine zR 5 rfl (fun K hK=>?_)
  go_simp
  refine hK.out _ _ K3 (fun hHeld=>?_)
  clear hK K
  refine zT 6 7 (.int .i64 0) rfl hHeld ?_
  try simp only[Act.put,zA,zB,zC]
  refine wpAnyH_done (by kernel_rfl) ?_ _
  clear K0 K1 K2 K3 st
  go_wp2
  refine bodyPost_ret (v:= .tuple #[.agg #[.int .i64 y2.room,.slice y2.a y2.ps.length y2.c],.int .i64 0]) (by simp[results,Tryz.results46,go_sem,r0,r1]) rfl ?_
  rw[zu E]
  exact⟨y2,zu HY2,rfl,(zu EN).1,(zu EN).2⟩
end SMove14
namespace Pure14
open Fil14 DiskH14 SDk14 SOk14 SRd14 SLess14 SRef14 SCom14 SPut14
def Asc(ps:List TF):Prop:=ps.Pairwise (fun p q=>p.1<q.1)
def Named(ps:List TF):Prop:=∀p∈ps,0≤p.1∧p.1≤21
theorem elF_mem{ps:List TF}{i:Nat}(h:i<ps.length):elF ps i∈ps:=by
 rw[elF_get h]
 exact List.getElem_mem h
theorem mem_elF{ps:List TF}{p:TF}(h:p∈ps):∃i,i<ps.length∧elF ps i=p:=by
 obtain⟨i,hi,e⟩:=List.getElem_of_mem h
 exact⟨i,hi,by rw[elF_get hi];exact e⟩
theorem ok_named{n:Int}:okN n=true↔0≤n∧n≤21:=by unfold okN;simp
theorem step_lt{ps:List TF}(h:∀i,i<ps.length→okAt ps i):∀j i,i<j→j<ps.length→(elF ps i).1<(elF ps j).1
 |0,i=>fun a _=>absurd a (by omega)
 |j+1,i=>fun a b=>by
  have s:=(h (j+1) b).2 (by omega)
  simp only[Nat.add_sub_cancel] at s
  by_cases e:i=j
  ·subst e;exact s
  ·have:=step_lt h j i (by omega) (by omega)
   omega
theorem asc_of{room:Int}{ps:List TF}(h:OkD room ps):Asc ps∧Named ps:=by
 refine⟨?_,fun p hp=>?_⟩
 ·unfold Asc
  rw[List.pairwise_iff_getElem]
  intro i j hi hj l
  have:=step_lt h.2.2.2 j i l hj
  rwa [elF_get hi,elF_get hj] at this
 ·obtain⟨i,hi,rfl⟩:=mem_elF hp
  exact ok_named.1 (h.2.2.2 i hi).1
theorem named_len:∀(ps:List TF) (lo:Int),0≤lo→lo≤22→Asc ps→(∀p∈ps,lo≤p.1∧p.1≤21)→(ps.length:Int)≤22-lo
 |[],lo,_,_,_,_=>by simp;omega
 |p::ps,lo,h0,h1,ha,hn=>by
  have hp:=hn p (by simp)
  have ha':=List.pairwise_cons.1 ha
  have:=named_len ps (p.1+1) (by omega) (by omega) ha'.2 (fun q hq=>⟨by have:=ha'.1 q hq;omega,(hn q (by simp[hq])).2⟩)
  simp only[List.length_cons]
  omega
theorem okd_of{room:Int}{ps:List TF}(h1:0≤room∧room≤60000)(h3:(sumZ ps:Int)≤room)(h4:Asc ps)(h5:Named ps):OkD room ps:=by
 refine⟨h1,by have:=named_len ps 0 (by omega) (by omega) h4 h5;omega,h3,fun i hi=>⟨ok_named.2 (h5 _ (elF_mem hi)),fun hz=>?_⟩⟩
 have:=List.pairwise_iff_getElem.1 h4 (i-1) i (by omega) hi (by omega)
 rw[elF_get hi,elF_get (show i-1<ps.length by omega)]
 exact this
def lows(ps:List TF)(n:Int):List TF:=ps.filter (fun p=>decide (p.1<n))
def highs(ps:List TF)(n:Int):List TF:=ps.filter (fun p=>decide (n<p.1))
theorem lows_all{ps:List TF}{n:Int}(h:∀p∈ps,p.1<n):lows ps n=ps∧highs ps n=[]:=by
 constructor
 ·unfold lows;rw[List.filter_eq_self];intro p hp;simpa using h p hp
 ·unfold highs;rw[List.filter_eq_nil_iff];intro p hp;have:=h p hp;simp;omega
open Classical in
theorem putN_is{ps:List TF}(f:TF)(h:Asc ps):∀k,k≤ps.length→putN ps f k=if ∃p∈ps.take k,f.1≤p.1 then(lows (ps.take k) f.1++f::highs (ps.take k) f.1,true) else(ps.take k,false)
 |0,_=>by simp[putN]
 |k+1,hk=>by
  have ih:=putN_is f h k (by omega)
  have tk:ps.take (k+1)=ps.take k++[elF ps k]:=by rw[List.take_succ_eq_append_getElem (show k<ps.length by omega),elF_get (show k<ps.length by omega)]
  have gt:∀q∈ps.take k,q.1<(elF ps k).1:=by
   intro q hq
   obtain⟨i,hi,e⟩:=List.getElem_of_mem hq
   have hi':i<k:=by simp at hi;omega
   rw[List.getElem_take] at e
   have:=List.pairwise_iff_getElem.1 h i k (by omega) (by omega) hi'
   rw[elF_get (show k<ps.length by omega),←e]
   exact this
  have hs:=fun L pb (e:putN ps f k=(L,pb))=>putN_succ e
  generalize elF ps k=p at *
  by_cases c:∃q∈ps.take k,f.1≤q.1
  ·rw[if_pos c] at ih
   have pg:f.1<p.1:=by obtain⟨q,hq,hf⟩:=c;have:=gt q hq;omega
   have c':∃q∈ps.take (k+1),f.1≤q.1:=by obtain⟨q,hq,hf⟩:=c;exact⟨q,by rw[tk];simp[hq],hf⟩
   rw[hs _ _ ih,if_pos c',tk]
   have n1:¬p.1=f.1:=by omega
   have n2:¬p.1<f.1:=by omega
   simp[lows,highs,List.filter_append,n1,n2,pg]
  ·rw[if_neg c] at ih
   have lo:∀q∈ps.take k,q.1<f.1:=fun q hq=>by
    rcases Int.lt_or_le q.1 f.1 with l|l
    ·exact l
    ·exact absurd ⟨q,hq,l⟩ c
   obtain⟨l1,l2⟩:=lows_all lo
   rw[hs _ _ ih]
   by_cases d:f.1≤p.1
   ·have c':∃q∈ps.take (k+1),f.1≤q.1:=⟨p,by rw[tk];simp,d⟩
    rw[if_pos c',tk]
    unfold lows at l1
    unfold highs at l2
    by_cases e:p.1=f.1
    ·have n2:¬p.1<f.1:=by omega
     have n3:¬f.1<p.1:=by omega
     simp only[lows,highs,List.filter_append,l1,l2]
     simp[e]
    ·have n2:¬p.1<f.1:=by omega
     have n3:f.1<p.1:=by omega
     simp only[lows,highs,List.filter_append,l1,l2]
     simp[e,d,n2,n3]
   ·have c':¬∃q∈ps.take (k+1),f.1≤q.1:=by
     rintro⟨q,hq,hf⟩
     rw[tk] at hq
     simp at hq
     rcases hq with hq|rfl
     ·exact c ⟨q,hq,hf⟩
     ·exact d hf
    have n1:¬p.1=f.1:=by omega
    rw[if_neg c',tk]
    simp[n1,d]
theorem put_is{ps:List TF}(f:TF)(h:Asc ps):putF ps f=lows ps f.1++f::highs ps f.1:=by
 have q:=putN_is f h ps.length (Nat.le_refl _)
 rw[List.take_length] at q
 unfold putF
 rw[q]
 by_cases c:∃p∈ps,f.1≤p.1
 ·rw[if_pos c];simp
 ·rw[if_neg c]
  obtain⟨l1,l2⟩:=lows_all (ps:=ps) (n:=f.1) (fun q hq=>by
   rcases Int.lt_or_le q.1 f.1 with l|l
   ·exact l
   ·exact absurd ⟨q,hq,l⟩ c)
  rw[l1,l2]
  simp
theorem low_mem{ps:List TF}{n:Int}{p:TF}:p∈lows ps n↔p∈ps∧p.1<n:=by simp[lows]
theorem high_mem{ps:List TF}{n:Int}{p:TF}:p∈highs ps n↔p∈ps∧n<p.1:=by simp[highs]
theorem put_mem{ps:List TF}{f p:TF}(h:Asc ps):p∈putF ps f↔p=f∨(p∈ps∧p.1≠f.1):=by
 rw[put_is f h]
 simp only[List.mem_append,List.mem_cons,low_mem,high_mem]
 constructor
 ·rintro(⟨a,b⟩|rfl|⟨a,b⟩)
  ·exact .inr ⟨a,by omega⟩
  ·exact .inl rfl
  ·exact .inr ⟨a,by omega⟩
 ·rintro(rfl|⟨a,b⟩)
  ·exact .inr (.inl rfl)
  ·rcases Int.lt_trichotomy p.1 f.1 with l|l|l
   ·exact .inl ⟨a,l⟩
   ·exact absurd l b
   ·exact .inr (.inr ⟨a,l⟩)
theorem put_asc{ps:List TF}(f:TF)(h:Asc ps):Asc (putF ps f):=by
 rw[put_is f h]
 unfold Asc
 rw[List.pairwise_append]
 refine⟨h.filter _,?_,?_⟩
 ·rw[List.pairwise_cons]
  exact⟨fun q hq=>(high_mem.1 hq).2,h.filter _⟩
 ·intro p hp q hq
  have:=(low_mem.1 hp).2
  rcases List.mem_cons.1 hq with rfl|hq
  ·exact this
  ·have:=(high_mem.1 hq).2
   omega
theorem put_named{ps:List TF}{f:TF}(h:Asc ps)(hn:Named ps)(hf:0≤f.1∧f.1≤21):Named (putF ps f):=fun p hp=>by
 rcases(put_mem h).1 hp with rfl|⟨a,_⟩
 ·exact hf
 ·exact hn p a
theorem asc_lt{ps:List TF}(h:Asc ps){i j:Nat}(l:i<j)(hj:j<ps.length):(elF ps i).1<(elF ps j).1:=by
 have:=List.pairwise_iff_getElem.1 h i j (by omega) hj l
 rwa [elF_get (show i<ps.length by omega),elF_get hj]
theorem find_neg{ps:List TF}{nm:Int}(h:findF ps nm<0):∀p∈ps,p.1≠nm:=fun p hp e=>by
 have:0≤findF ps nm:=by
  unfold findF
  have:(ps.findIdx? (fun p=>p.1==nm)).isSome=true:=by
   rw[List.findIdx?_isSome]
   exact List.any_eq_true.2 ⟨p,hp,by simpa using e⟩
  obtain⟨i,hi⟩:=Option.isSome_iff_exists.1 this
  rw[hi]
  simp
 omega
theorem parts{ps:List TF}(h:Asc ps){k:Nat}(hk:k<ps.length):lows ps (elF ps k).1=ps.take k∧highs ps (elF ps k).1=ps.drop (k+1):=by
 have e:ps=ps.take k++elF ps k::ps.drop (k+1):=by
  rw[elF_get hk,List.getElem_cons_drop,List.take_append_drop]
 have a:∀q∈ps.take k,q.1<(elF ps k).1:=by
  intro q hq
  obtain⟨i,hi,e⟩:=List.getElem_of_mem hq
  have hi':i<k:=by simp at hi;omega
  rw[List.getElem_take] at e
  have:=asc_lt h hi' hk
  rw[elF_get (show i<ps.length by omega)] at this
  rw[←e]
  exact this
 have b:∀q∈ps.drop (k+1),(elF ps k).1<q.1:=by
  intro q hq
  obtain⟨i,hi,e⟩:=List.getElem_of_mem hq
  rw[List.getElem_drop] at e
  simp at hi
  have:=asc_lt h (show k<k+1+i by omega) (by omega)
  rw[elF_get (show k+1+i<ps.length by omega)] at this
  rw[←e]
  exact this
 generalize elF ps k=p at *
 constructor
 ·conv=>lhs;rw[e]
  unfold lows
  rw[List.filter_append,List.filter_cons]
  rw[List.filter_eq_self.2 (fun q hq=>by simpa using a q hq)]
  rw[List.filter_eq_nil_iff.2 (fun q hq=>by have:=b q hq;simp;omega)]
  simp
 ·conv=>lhs;rw[e]
  unfold highs
  have h1:(ps.take k).filter (fun q=>decide (p.1<q.1))=[]:=List.filter_eq_nil_iff.2 (fun q hq=>by have:=a q hq;simp;omega)
  have h2:(ps.drop (k+1)).filter (fun q=>decide (p.1<q.1))=ps.drop (k+1):=List.filter_eq_self.2 (fun q hq=>by simpa using b q hq)
  rw[List.filter_append,List.filter_cons,h1,h2]
  simp
theorem lessN_is(ps:List TF)(k:Nat):∀n,n≤ps.length→lessN ps k n=(ps.take n).eraseIdx k
 |0,_=>by simp[lessN]
 |n+1,h=>by
  have ih:=lessN_is ps k n (by omega)
  have tk:ps.take (n+1)=ps.take n++[elF ps n]:=by rw[List.take_succ_eq_append_getElem (show n<ps.length by omega),elF_get (show n<ps.length by omega)]
  have ln:(ps.take n).length=n:=by simp;omega
  simp only[lessN]
  rw[tk]
  by_cases e:(n:Int)=k
  ·have e':n=k:=by omega
   rw[if_pos e,ih,List.eraseIdx_of_length_le (by omega),List.eraseIdx_append_of_length_le (by omega)]
   rw[ln,e',Nat.sub_self]
   simp
  ·rw[if_neg e,ih]
   by_cases l:k<n
   ·rw[List.eraseIdx_append_of_lt_length (by omega)]
   ·rw[List.eraseIdx_of_length_le (by omega),List.eraseIdx_of_length_le (by simp;omega)]
theorem less_is{ps:List TF}(h:Asc ps){k:Nat}(hk:k<ps.length):lessN ps k ps.length=lows ps (elF ps k).1++highs ps (elF ps k).1:=by
 rw[lessN_is ps k ps.length (Nat.le_refl _),List.take_length,(parts h hk).1,(parts h hk).2,List.eraseIdx_eq_take_drop_succ]
theorem less_asc{ps:List TF}(h:Asc ps){k:Nat}(hk:k<ps.length):Asc (lessN ps k ps.length):=by
 rw[lessN_is ps k ps.length (Nat.le_refl _),List.take_length]
 exact h.sublist (List.eraseIdx_sublist _ _)
theorem less_mem{ps:List TF}(h:Asc ps){k:Nat}(hk:k<ps.length){p:TF}:p∈lessN ps k ps.length↔p∈ps∧p.1≠(elF ps k).1:=by
 rw[less_is h hk]
 simp only[List.mem_append,low_mem,high_mem]
 constructor
 ·rintro(⟨a,b⟩|⟨a,b⟩)
  ·exact⟨a,by omega⟩
  ·exact⟨a,by omega⟩
 ·rintro⟨a,b⟩
  rcases Int.lt_trichotomy p.1 (elF ps k).1 with l|l|l
  ·exact .inl ⟨a,l⟩
  ·exact absurd l b
  ·exact .inr ⟨a,l⟩
theorem sum_cons(p:TF)(ps:List TF):sumZ (p::ps)=(p.2.1.size+p.2.2.size)+sumZ ps:=by simp[sumZ]
theorem sum_mid(l r:List TF)(p:TF):sumZ (l++p::r)=sumZ l+(p.2.1.size+p.2.2.size)+sumZ r:=by rw[sumZ_append,sum_cons];omega
theorem sum_rest{ps:List TF}(h:Asc ps){k:Nat}(hk:k<ps.length):sumZ ps=sumZ (lows ps (elF ps k).1)+((elF ps k).2.1.size+(elF ps k).2.2.size)+sumZ (highs ps (elF ps k).1):=by
 rw[(parts h hk).1,(parts h hk).2,←sum_mid]
 congr 1
 rw[elF_get hk,List.getElem_cons_drop,List.take_append_drop]
theorem parts_no:∀{ps:List TF} {n:Int},Asc ps→(∀p∈ps,p.1≠n)→lows ps n++highs ps n=ps
 |[],n,_,_=>by simp[lows,highs]
 |p::ps,n,h,hn=>by
  have ha:=List.pairwise_cons.1 h
  have hp:=hn p (by simp)
  have ih:=parts_no ha.2 (fun q hq=>hn q (by simp[hq]))
  rcases Int.lt_trichotomy p.1 n with l|l|l
  ·have n2:¬n<p.1:=by omega
   simp only[lows,highs,List.filter_cons] at ih⊢
   simp[l,n2,ih]
  ·exact absurd l hp
  ·have al:∀q∈ps,n<q.1:=fun q hq=>by have:=ha.1 q hq;omega
   have n2:¬p.1<n:=by omega
   simp only[lows,highs,List.filter_cons]
   rw[List.filter_eq_nil_iff.2 (fun q hq=>by have:=al q hq;simp;omega),List.filter_eq_self.2 (fun q hq=>by simpa using al q hq)]
   simp[l,n2]
theorem sum_new{ps:List TF}(h:Asc ps){n:Int}(hn:∀p∈ps,p.1≠n):sumZ ps=sumZ (lows ps n)+sumZ (highs ps n):=by
 conv=>lhs;rw[←parts_no h hn]
 rw[sumZ_append]
theorem sum_put{ps:List TF}(f:TF)(h:Asc ps):sumZ (putF ps f)=sumZ (lows ps f.1)+(f.2.1.size+f.2.2.size)+sumZ (highs ps f.1):=by rw[put_is f h,sum_mid]
end Pure14
namespace SDrop14
open Fil14 OpensF14 DiskH14 DkH14 SDk14 SOk14 SRd14 App14 SLess14 SCopy14 SRef14 SCom14
def dropD(room:Int)(ps:List TF)(nm:Int):(Int×List TF)×Int:=if(atD room ps nm).2=0 then((room,lessN ps (atD room ps nm).1 ps.length),0) else(refD (atD room ps nm).2 room ps,(atD room ps nm).2)
end SDrop14
namespace SCrash14
open Fil14 OpensF14 DiskH14 DkH14 SDk14 SOk14 SRd14 App14 SLess14 SCopy14 SRef14 SCom14 SPut14
open DkH14 (row_step)
def crashF(keep:Int)(p:TF):TF:=(p.1,p.2.1++p.2.2.extract 0 (min (max keep 0) p.2.2.size).toNat,ByteArray.empty)
noncomputable def crashD (room:Int) (ps:List TF) (keep:Int):Int×List TF:= @ite _ (OkD room ps) (Classical.propDecidable _) (room,ps.map (crashF keep)) (0,[])
theorem sMax(w:World)(a b m:Int)(h:max a b=m):Calls Tryz.prog 103 #[.int .i64 a,.int .i64 b] w fun e w'=>e= .returned (.int .i64 m)∧w'=w:=by
 by_cases q:a>b
 ·have:m=a:=by omega
  subst this
  clear h
  go_enter Tryz.func103,Tryz.ntmps103
  go_wp2
  go_ret
  exact⟨rfl,rfl⟩
 ·have:m=b:=by omega
  subst this
  clear h
  go_enter Tryz.func103,Tryz.ntmps103
  go_wp2
  go_ret
  exact⟨rfl,rfl⟩
theorem sMin(w:World)(a b m:Int)(h:min a b=m):Calls Tryz.prog 102 #[.int .i64 a,.int .i64 b] w fun e w'=>e= .returned (.int .i64 m)∧w'=w:=by
 by_cases q:a<b
 ·have:m=a:=by omega
  subst this
  clear h
  go_enter Tryz.func102,Tryz.ntmps102
  go_wp2
  go_ret
  exact⟨rfl,rfl⟩
 ·have:m=b:=by omega
  subst this
  clear h
  go_enter Tryz.func102,Tryz.ntmps102
  go_wp2
  go_ret
  exact⟨rfl,rfl⟩
theorem sDiskCrash(w:World)(x:Dx)(keep:Int)(hr:RdD w x)(hz:sumZ x.ps≤1048576):
  Calls Tryz.prog 51 #[.agg #[.int .i64 x.room,.slice x.a x.ps.length x.c],.int .i64 keep] w fun e w'=>∃y:Dx,(y.room,y.ps)=crashD x.room x.ps keep∧e= .returned (.agg #[.int .i64 y.room,.slice y.a y.ps.length y.c])∧OwD w' w.heap.size y∧Below w.heap.size w w':=by
 have G0:=zh (begunD hr)
 have s2:((w.alloc (.cells #[.int .i64 x.room,.slice x.a x.ps.length x.c] 37)).alloc (.cells #[.int .i64 0,.slice none 0 0] 37)).heap.size=w.heap.size+2:=by simp
 have OK0:=zh (sDiskOk _ x (zu G0).1.r hz)
 have RG:=zh (fun g e=>(hr.r g e).1)
 clear hr
 by_cases q:OkD x.room x.ps
 case neg=>
  have E:=zh (show crashD x.room x.ps keep=(0,[]) from if_neg q)
  have OK:=zh (show Calls Tryz.prog 35 #[.agg #[.int .i64 x.room,.slice x.a x.ps.length x.c]] _ fun e w'=>e= .returned (.bool false)∧Below _ _ w' by have:=zu OK0;rw[decide_eq_false q] at this;exact this)
  generalize crashD x.room x.ps keep=rr at *
  clear OK0 q
  go_enter Tryz.func51,Tryz.ntmps51
  go_wp2_with fail
  refine(zu OK).mono ?_
  rintro e u ⟨rfl,b1⟩
  have R2:=zh ((zu G0).2.below b1 (by omega))
  have EN:=zh (endedD (y:=⟨0,none,0,[]⟩) (base0:=w.heap.size+2) (((zu G0).1.step b1).b) (zu R2) ⟨rfl,.inl ⟨rfl,rfl⟩⟩ (by omega))
  have f0:=(zu R2).free 0
  have f1:=(zu R2).free 1
  have r0:=(zu R2).c0
  have r1:=(zu R2).c1
  clear b1
  go_wp2
  refine bodyPost_ret (v:= .agg #[.int .i64 0,.slice none 0 0]) (by simp[results,Tryz.results51,go_sem,r0,r1]) rfl ⟨⟨0,none,0,[]⟩,(zu E).symm,rfl,(zu EN).1,(zu EN).2⟩
 have E:=zh (show crashD x.room x.ps keep=(x.room,x.ps.map (crashF keep)) from if_pos q)
 have OK:=zh (show Calls Tryz.prog 35 #[.agg #[.int .i64 x.room,.slice x.a x.ps.length x.c]] _ fun e w'=>e= .returned (.bool true)∧Below _ _ w' by have:=zu OK0;rw[decide_eq_true q] at this;exact this)
 have h22:=q.2.1
 generalize crashD x.room x.ps keep=rr at *
 clear OK0 q
 go_enter Tryz.func51,Tryz.ntmps51
 go_wp2_with fail
 refine(zu OK).mono ?_
 rintro e u ⟨rfl,b1⟩
 have W1:=zh ((zu G0).1.step b1)
 have R1:=zh ((zu G0).2.below b1 (by omega))
 have us:=b1.size
 clear b1 G0 OK
 have W3:=zh ((zu W1).step (one_more u (.cells #[.int .i64 x.room,.slice none 0 0] 37)))
 have R3:=zh ((zu R1).below (one_more u (.cells #[.int .i64 x.room,.slice none 0 0] 37)) (zu R1).lt.2)
 have P0:=zh (show Pt w.heap.size u.heap.size (u.alloc (.cells #[.int .i64 x.room,.slice none 0 0] 37)) (u.alloc (.cells #[.int .i64 x.room,.slice none 0 0] 37)) x.room ((x.ps.take 0).map (crashF keep)) none 0 0 from⟨World.grownBy.refl _ _,Bc.made _ _ (by omega) rfl,⟨rfl,.inl ⟨rfl,rfl⟩⟩⟩)
 have s3:(u.alloc (.cells #[.int .i64 x.room,.slice none 0 0] 37)).heap.size=u.heap.size+1:=by simp
 have c0:=(zu W1).c0
 have c1:=(zu W1).c1
 have lt:=(zu W1).lt
 go_wp2
 generalize u.alloc (.cells #[.int .i64 x.room,.slice none 0 0] 37)=W at *
 clear c0 c1
 go_loopw [6,7,8] (fun i _ _ wr=>∃(m c:Nat) (a:Option Addr),i= .int .i64 m∧m≤x.ps.length∧Hid (Pt w.heap.size u.heap.size W wr x.room ((x.ps.take m).map (crashF keep)) a m c)) (fun i _ _ _=>x.ps.length-(intOf i).toNat)
 case atStart=>exact⟨0,0,none,rfl,by omega,P0⟩
 case round=>
  clear P0
  obtain⟨m,c,a,rfl,hm,PT⟩:=hrel
  have gs:=(zu PT).gr.size
  have c1:=(kcell (zu PT).gr 1 (show w.heap.size<W.heap.size from by omega) (by omega)).trans (zu W3).c1
  by_cases t:m<x.ps.length
  ·have kt:(m:Int)<x.ps.length:=by omega
   have TK:=zh (show(x.ps.take (m+1)).map (crashF keep)=(x.ps.take m).map (crashF keep)++[crashF keep (elF x.ps m)] from by rw[List.take_succ_eq_append_getElem t,List.map_append];simp[List.getD,t])
   obtain⟨g,ea,lg,e0,e1,e2⟩:=cells_of (zu W3).r t
   have lg0:=(zu RG) g ea
   have gn:g≠u.heap.size:=by omega
   have d0:=(kcell (zu PT).gr (m*3) lg gn).trans e0
   have d1:=(kcell (zu PT).gr (m*3+1) lg gn).trans e1
   have d2:=(kcell (zu PT).gr (m*3+2) lg gn).trans e2
   have ix:=ixF x.c ea t
   have NX:=sumZ_next t
   have LE:=sumZ_le x.ps (m+1)
   have sz:(elF x.ps m).2.1.size+(elF x.ps m).2.2.size≤1048576:=by omega
   generalize hp:elF x.ps m=p at *
   obtain⟨z0,z1,z2⟩:=p
   simp only at d0 d1 d2 sz
   obtain⟨km,hkm⟩:∃km,max keep 0=km:=⟨_,rfl⟩
   obtain⟨kn,hkn⟩:∃kn:Nat,min km (z2.size:Int)=kn:=⟨(min km (z2.size:Int)).toNat,by omega⟩
   have HKM:=zh hkm
   have HKK:=zh hkn
   have kz:(kn:Int)≤z2.size:=by omega
   have TE:crashF keep (z0,z1,z2)=(z0,z1++z2.extract 0 kn,ByteArray.empty):=by
    unfold crashF
    simp only[hkm,hkn,Int.toNat_natCast]
   rw[TE] at TK
   have sx:z1.size+(z2.extract 0 kn).size≤1048576:=by
    have:(z2.extract 0 kn).size≤z2.size:=by simp;omega
    omega
   have sm:z1.size+min kn z2.size≤9223372036854775807:=by omega
   clear e0 e1 e2 ea hp NX LE TE hkm hkn
   have K8:(wr.alloc (.cells #[.int .i64 z0,.string z1,.string z2] 81)).cell? ⟨wr.heap.size,0,none⟩=some (.int .i64 z0)∧(wr.alloc (.cells #[.int .i64 z0,.string z1,.string z2] 81)).cell? ⟨wr.heap.size,1,none⟩=some (.string z1)∧(wr.alloc (.cells #[.int .i64 z0,.string z1,.string z2] 81)).cell? ⟨wr.heap.size,2,none⟩=some (.string z2):=by simp
   obtain⟨V,hV⟩:∃V,Hid (V=wr.alloc (.cells #[.int .i64 z0,.string z1,.string z2] 81)):=⟨_,rfl⟩
   have vL:=zh (show wr.heap.size<V.heap.size by rw[zu hV];simp)
   have bV:=zh (show Below wr.heap.size wr V by rw[zu hV];exact one_more _ _)
   rw[←zu hV] at K8
   go_wp2_with fail
   rw[←zu hV]
   clear hV
   refine wp_region_held_drew (S:=(fun w'=>w'.cell? ⟨wr.heap.size,0,none⟩=some (.int .i64 z0)∧w'.cell? ⟨wr.heap.size,1,none⟩=some (.string z1)∧w'.cell? ⟨wr.heap.size,2,none⟩=some (.string z2))) (by kernel_rfl) K8 (fun hHeld=>?_)
   refine zT 0 28 (.int .i64 keep) rfl hHeld ?_
   refine zT 2 30 (.pointer (some ⟨wr.heap.size,2,none⟩)) rfl hHeld ?_
   refine zT 3 31 (.string z2) rfl hHeld ?_
   refine zT 4 32 (.int .i64 z2.size) rfl hHeld ?_
   try simp only[Act.put,zA,zB,zC]
   refine zR 1 rfl (fun K hK=>?_)
   go_simp
   go_wp2_with fail
   refine(sMax _ keep 0 km (zu HKM)).mono ?_
   rintro e v1 ⟨rfl,rfl⟩
   go_wp2_with fail
   refine hK.out _ _ K8 (fun hHeld=>?_)
   clear hK K
   try simp only[Act.put,zA,zB,zC]
   refine zR 5 rfl (fun K hK=>?_)
   go_simp
   go_wp2_with fail
   refine(sMin _ km z2.size kn (zu HKK)).mono ?_
   rintro e v2 ⟨rfl,rfl⟩
   go_wp2_with fail
   refine hK.out _ _ K8 (fun hHeld=>?_)
   clear hK K
   refine zT 6 8 (.int .i64 kn) rfl hHeld ?_
   try simp only[Act.put,zA,zB,zC]
   refine wpAnyH_done (by kernel_rfl) ?_ _
   obtain⟨V2,hV2⟩:∃V2,Hid (V2=V.drew):=⟨_,rfl⟩
   have bV2:=zh (show Below wr.heap.size wr V2 by rw[zu hV2];exact(zu bV).drew)
   have K9:V2.cell? ⟨wr.heap.size,0,none⟩=some (.int .i64 z0)∧V2.cell? ⟨wr.heap.size,1,none⟩=some (.string z1)∧V2.cell? ⟨wr.heap.size,2,none⟩=some (.string z2):=by rw[zu hV2];exact K8
   have g9:=(zu bV2).size
   have vl:wr.heap.size<V2.heap.size:=by rw[zu hV2];exact(zu vL)
   have wl:=(zu PT).bx.lt.2
   have bc:=((zu PT).bx.below (zu bV2) wl).c1
   have K0:V2.cell? ⟨wr.heap.size,0,none⟩=some (.int .i64 z0)∧V2.cell? ⟨wr.heap.size,1,none⟩=some (.string z1)∧V2.cell? ⟨wr.heap.size,2,none⟩=some (.string z2):=K9
   have KB:(V2.drew.alloc (.cells #[.int .i64 z0,.string (z1++z2.extract 0 kn),.string ⟨#[]⟩] 81)).cell? ⟨wr.heap.size,0,none⟩=some (.int .i64 z0)∧(V2.drew.alloc (.cells #[.int .i64 z0,.string (z1++z2.extract 0 kn),.string ⟨#[]⟩] 81)).cell? ⟨wr.heap.size,1,none⟩=some (.string z1)∧(V2.drew.alloc (.cells #[.int .i64 z0,.string (z1++z2.extract 0 kn),.string ⟨#[]⟩] 81)).cell? ⟨wr.heap.size,2,none⟩=some (.string z2):=⟨((one_more V2.drew (.cells #[.int .i64 z0,.string (z1++z2.extract 0 kn),.string ⟨#[]⟩] 81)).cell (p:=⟨wr.heap.size,0,none⟩) vl).trans K9.1,((one_more V2.drew (.cells #[.int .i64 z0,.string (z1++z2.extract 0 kn),.string ⟨#[]⟩] 81)).cell (p:=⟨wr.heap.size,1,none⟩) vl).trans K9.2.1,((one_more V2.drew (.cells #[.int .i64 z0,.string (z1++z2.extract 0 kn),.string ⟨#[]⟩] 81)).cell (p:=⟨wr.heap.size,2,none⟩) vl).trans K9.2.2⟩
   have bcD:V2.drew.cell? ⟨u.heap.size,1,none⟩=some (.slice a m c):=bc
   have bcA:(V2.alloc (.cells #[.int .i64 z0,.string (z1++z2.extract 0 kn),.string ⟨#[]⟩] 81)).cell? ⟨u.heap.size,1,none⟩=some (.slice a m c):=((one_more V2.drew (.cells #[.int .i64 z0,.string (z1++z2.extract 0 kn),.string ⟨#[]⟩] 81)).cell (p:=⟨u.heap.size,1,none⟩) (show u.heap.size<V2.heap.size from by omega)).trans bc
   go_wp2_with fail
   rw[←zu hV2]
   clear hV2
   refine wp_region_held_drew (S:=(fun w'=>w'.cell? ⟨wr.heap.size,0,none⟩=some (.int .i64 z0)∧w'.cell? ⟨wr.heap.size,1,none⟩=some (.string z1)∧w'.cell? ⟨wr.heap.size,2,none⟩=some (.string z2))) (by kernel_rfl) K0 (fun hHeld=>?_)
   refine zT 0 34 (.pointer (some ⟨u.heap.size,1,none⟩)) rfl hHeld ?_
   refine zT 2 36 (.pointer (some ⟨wr.heap.size,0,none⟩)) rfl hHeld ?_
   refine zT 3 37 (.int .i64 z0) rfl hHeld ?_
   refine zT 4 38 (.pointer (some ⟨wr.heap.size,1,none⟩)) rfl hHeld ?_
   refine zT 5 39 (.string z1) rfl hHeld ?_
   refine zT 6 40 (.pointer (some ⟨wr.heap.size,2,none⟩)) rfl hHeld ?_
   refine zT 7 41 (.string z2) rfl hHeld ?_
   refine zT 8 42 (.int .i64 kn) rfl hHeld ?_
   refine zT 9 43 (.string (z2.extract 0 kn)) rfl hHeld ?_
   refine zT 10 44 (.string (z1++z2.extract 0 kn)) rfl hHeld ?_
   refine zT 11 45 (.agg #[.int .i64 z0,.string (z1++z2.extract 0 kn),.string ⟨#[]⟩]) rfl hHeld ?_
   try simp only[Act.put,zA,zB,zC]
   refine wpAnyH_ready (rs:=[1,12]) (by kernel_rfl) (by simp) ?_
   refine AllReadyH.cons rfl (fun K hK=>?_) (AllReadyH.cons rfl (fun K hK=>?_) AllReadyH.nil)
   ·go_simp
    refine hK.out _ _ K0 (fun hHeld=>?_)
    clear hK K
    try simp only[Act.put,zA,zB,zC]
    refine zR 12 rfl (fun K hK=>?_)
    go_simp
    refine hK.out _ _ KB (fun hHeld=>?_)
    clear hK K
    try simp only[Act.put,zA,zB,zC]
    refine zR 13 rfl (fun K hK=>?_)
    refine step_app (V2.drew.alloc (.cells #[.int .i64 z0,.string (z1++z2.extract 0 kn),.string ⟨#[]⟩] 81)) (by rfl) _ _ 35 81 (by rfl) (.agg #[.int .i64 0,.string ByteArray.empty,.string ByteArray.empty]) 3 40 Tryz.underlying35 HelpF14.info2 rfl (by decide) (by decide) W.heap.size (.slice a m c) m (flatF ((x.ps.take m).map (crashF keep))) V2.drew.heap.size [.int .i64 z0,.string (z1++z2.extract 0 kn),.string ⟨#[]⟩] (by rfl) (by rfl) (row_step (W:=V2.drew) (row_step (zu PT).ow (zu bV2).drew) (one_more V2.drew (.cells #[.int .i64 z0,.string (z1++z2.extract 0 kn),.string ⟨#[]⟩] 81))) rfl (litm V2.drew _ _ _ (by rfl)) (by simp[Value.oneCell']) (by omega) (Nat.le_trans (show W.heap.size≤V2.heap.size from by have:=(zu PT).gr.size;omega) (by simp)) ?_
    intro g9' c9 u9 o9 gr9
    have PA:=zh (Pt.app (p:=(z0,z1++z2.extract 0 kn,ByteArray.empty)) (zu PT) (by omega) (show Below wr.heap.size wr (V2.drew.alloc (.cells #[.int .i64 z0,.string (z1++z2.extract 0 kn),.string ⟨#[]⟩] 81)) from(zu bV2).drew.alloc (show wr.heap.size≤V2.drew.heap.size from g9) _) gr9 o9)
    have fr9:u9.frozen? ⟨u.heap.size,1,none⟩=false:=(zu PA).1.free 1
    have bc9:=(zu PA).1.c1
    have gs9:=gr9.size
    have NB:some wr.heap.size≠(Value.slice a m c).ownBlock:=fun e=>by have:=(World.ownsRow.lt (zu PT).ow _ e.symm).2;omega
    have KC:u9.cell? ⟨wr.heap.size,0,none⟩=some (.int .i64 z0)∧u9.cell? ⟨wr.heap.size,1,none⟩=some (.string z1)∧u9.cell? ⟨wr.heap.size,2,none⟩=some (.string z2):=⟨gr9.cell KB.1 NB,gr9.cell KB.2.1 NB,gr9.cell KB.2.2 NB⟩
    have sg:=(bc_set1 (zu PA).1 (.slice (some ⟨g9',0,none⟩) (m+1) c9)).2
    have KD:(u9.setCell ⟨u.heap.size,1,none⟩ (.slice (some ⟨g9',0,none⟩) (m+1) c9)).cell? ⟨wr.heap.size,0,none⟩=some (.int .i64 z0)∧(u9.setCell ⟨u.heap.size,1,none⟩ (.slice (some ⟨g9',0,none⟩) (m+1) c9)).cell? ⟨wr.heap.size,1,none⟩=some (.string z1)∧(u9.setCell ⟨u.heap.size,1,none⟩ (.slice (some ⟨g9',0,none⟩) (m+1) c9)).cell? ⟨wr.heap.size,2,none⟩=some (.string z2):=⟨(kcell sg 0 (show wr.heap.size<u9.heap.size from by have:V2.heap.size<(V2.drew.alloc (.cells #[.int .i64 z0,.string (z1++z2.extract 0 kn),.string ⟨#[]⟩] 81)).heap.size:=(by show V2.heap.size<(V2.heap.push _).size;rw[Array.size_push];omega);omega) (show wr.heap.size≠u.heap.size from by omega)).trans KC.1,(kcell sg 1 (show wr.heap.size<u9.heap.size from by have:V2.heap.size<(V2.drew.alloc (.cells #[.int .i64 z0,.string (z1++z2.extract 0 kn),.string ⟨#[]⟩] 81)).heap.size:=(by show V2.heap.size<(V2.heap.push _).size;rw[Array.size_push];omega);omega) (show wr.heap.size≠u.heap.size from by omega)).trans KC.2.1,(kcell sg 2 (show wr.heap.size<u9.heap.size from by have:V2.heap.size<(V2.drew.alloc (.cells #[.int .i64 z0,.string (z1++z2.extract 0 kn),.string ⟨#[]⟩] 81)).heap.size:=(by show V2.heap.size<(V2.heap.push _).size;rw[Array.size_push];omega);omega) (show wr.heap.size≠u.heap.size from by omega)).trans KC.2.2⟩
    clear o9 sg
    refine hK.out _ _ KC (fun hHeld=>?_)
    clear hK K
    refine zT 14 48 (.pointer (some ⟨u.heap.size,1,none⟩)) rfl hHeld ?_
    try simp only[Act.put,zA,zB,zC]
    refine zR 15 rfl (fun K hK=>?_)
    go_simp
    refine hK.out _ _ KD (fun hHeld=>?_)
    clear hK K
    try simp only[Act.put,zA,zB,zC]
    refine wpAnyH_done (by kernel_rfl) ?_ _
    clear K0 KB KC KD gr9 bc bcD bcA bc9 fr9 K8 K9
    have PN:=zh (zu PA).2
    clear PA
    go_wp2
    go_roundw
    case rel=>exact⟨m+1,c9,some ⟨g9',0,none⟩,by go_num,by omega,zh (by rw[zu TK];exact zu PN)⟩
    case measure=>simp[intOf];omega
   ·go_simp
    refine hK.out _ _ KB (fun hHeld=>?_)
    clear hK K
    try simp only[Act.put,zA,zB,zC]
    refine zR 1 rfl (fun K hK=>?_)
    go_simp
    refine hK.out _ _ KB (fun hHeld=>?_)
    clear hK K
    try simp only[Act.put,zA,zB,zC]
    refine zR 13 rfl (fun K hK=>?_)
    refine step_app (V2.drew.alloc (.cells #[.int .i64 z0,.string (z1++z2.extract 0 kn),.string ⟨#[]⟩] 81)) (by rfl) _ _ 35 81 (by rfl) (.agg #[.int .i64 0,.string ByteArray.empty,.string ByteArray.empty]) 3 40 Tryz.underlying35 HelpF14.info2 rfl (by decide) (by decide) W.heap.size (.slice a m c) m (flatF ((x.ps.take m).map (crashF keep))) V2.drew.heap.size [.int .i64 z0,.string (z1++z2.extract 0 kn),.string ⟨#[]⟩] (by rfl) (by rfl) (row_step (W:=V2.drew) (row_step (zu PT).ow (zu bV2).drew) (one_more V2.drew (.cells #[.int .i64 z0,.string (z1++z2.extract 0 kn),.string ⟨#[]⟩] 81))) rfl (litm V2.drew _ _ _ (by rfl)) (by simp[Value.oneCell']) (by omega) (Nat.le_trans (show W.heap.size≤V2.heap.size from by have:=(zu PT).gr.size;omega) (by simp)) ?_
    intro g9' c9 u9 o9 gr9
    have PA:=zh (Pt.app (p:=(z0,z1++z2.extract 0 kn,ByteArray.empty)) (zu PT) (by omega) (show Below wr.heap.size wr (V2.drew.alloc (.cells #[.int .i64 z0,.string (z1++z2.extract 0 kn),.string ⟨#[]⟩] 81)) from(zu bV2).drew.alloc (show wr.heap.size≤V2.drew.heap.size from g9) _) gr9 o9)
    have fr9:u9.frozen? ⟨u.heap.size,1,none⟩=false:=(zu PA).1.free 1
    have bc9:=(zu PA).1.c1
    have gs9:=gr9.size
    have NB:some wr.heap.size≠(Value.slice a m c).ownBlock:=fun e=>by have:=(World.ownsRow.lt (zu PT).ow _ e.symm).2;omega
    have KC:u9.cell? ⟨wr.heap.size,0,none⟩=some (.int .i64 z0)∧u9.cell? ⟨wr.heap.size,1,none⟩=some (.string z1)∧u9.cell? ⟨wr.heap.size,2,none⟩=some (.string z2):=⟨gr9.cell KB.1 NB,gr9.cell KB.2.1 NB,gr9.cell KB.2.2 NB⟩
    have sg:=(bc_set1 (zu PA).1 (.slice (some ⟨g9',0,none⟩) (m+1) c9)).2
    have KD:(u9.setCell ⟨u.heap.size,1,none⟩ (.slice (some ⟨g9',0,none⟩) (m+1) c9)).cell? ⟨wr.heap.size,0,none⟩=some (.int .i64 z0)∧(u9.setCell ⟨u.heap.size,1,none⟩ (.slice (some ⟨g9',0,none⟩) (m+1) c9)).cell? ⟨wr.heap.size,1,none⟩=some (.string z1)∧(u9.setCell ⟨u.heap.size,1,none⟩ (.slice (some ⟨g9',0,none⟩) (m+1) c9)).cell? ⟨wr.heap.size,2,none⟩=some (.string z2):=⟨(kcell sg 0 (show wr.heap.size<u9.heap.size from by have:V2.heap.size<(V2.drew.alloc (.cells #[.int .i64 z0,.string (z1++z2.extract 0 kn),.string ⟨#[]⟩] 81)).heap.size:=(by show V2.heap.size<(V2.heap.push _).size;rw[Array.size_push];omega);omega) (show wr.heap.size≠u.heap.size from by omega)).trans KC.1,(kcell sg 1 (show wr.heap.size<u9.heap.size from by have:V2.heap.size<(V2.drew.alloc (.cells #[.int .i64 z0,.string (z1++z2.extract 0 kn),.string ⟨#[]⟩] 81)).heap.size:=(by show V2.heap.size<(V2.heap.push _).size;rw[Array.size_push];omega);omega) (show wr.heap.size≠u.heap.size from by omega)).trans KC.2.1,(kcell sg 2 (show wr.heap.size<u9.heap.size from by have:V2.heap.size<(V2.drew.alloc (.cells #[.int .i64 z0,.string (z1++z2.extract 0 kn),.string ⟨#[]⟩] 81)).heap.size:=(by show V2.heap.size<(V2.heap.push _).size;rw[Array.size_push];omega);omega) (show wr.heap.size≠u.heap.size from by omega)).trans KC.2.2⟩
    clear o9 sg
    refine hK.out _ _ KC (fun hHeld=>?_)
    clear hK K
    refine zT 14 48 (.pointer (some ⟨u.heap.size,1,none⟩)) rfl hHeld ?_
    try simp only[Act.put,zA,zB,zC]
    refine zR 15 rfl (fun K hK=>?_)
    go_simp
    refine hK.out _ _ KD (fun hHeld=>?_)
    clear hK K
    try simp only[Act.put,zA,zB,zC]
    refine wpAnyH_done (by kernel_rfl) ?_ _
    clear K0 KB KC KD gr9 bc bcD bcA bc9 fr9 K8 K9
    have PN:=zh (zu PA).2
    clear PA
    go_wp2
    go_roundw
    case rel=>exact⟨m+1,c9,some ⟨g9',0,none⟩,by go_num,by omega,zh (by rw[zu TK];exact zu PN)⟩
    case measure=>simp[intOf];omega
  ·have e:m=x.ps.length:=by omega
   subst e
   have PN:=zu PT
   rw[List.take_length] at PN
   have B0:=PN.bx.c0
   have B1:=PN.bx.c1
   have R4:=zh ((zu R3).kept PN.gr (by simp;omega))
   have f0:=(zu R4).free 0
   have f1:=(zu R4).free 1
   have r0:=(zu R4).c0
   have r1:=(zu R4).c1
   have lm:(x.ps.map (crashF keep)).length=x.ps.length:=by simp
   have BW:=zh (show Below w.heap.size w wr from grow_low (zu W3).b PN.gr ⟨by omega,(zu W3).b.size⟩)
   have EN:=zh (endedD (y:=⟨x.room,a,c,x.ps.map (crashF keep)⟩) (base0:=W.heap.size) (zu BW) (zu R4) (show OwD wr W.heap.size ⟨x.room,a,c,x.ps.map (crashF keep)⟩ from by unfold OwD;simp only[lm];exact PN.ow) (by omega))
   simp only[lm] at EN
   clear PN PT lm
   go_wp2
   refine bodyPost_ret (v:= .agg #[.int .i64 x.room,.slice a x.ps.length c]) (by simp[results,Tryz.results51,go_sem,r0,r1]) rfl ⟨⟨x.room,a,c,x.ps.map (crashF keep)⟩,(zu E).symm,by simp,(zu EN).1,(zu EN).2⟩
end SCrash14
namespace Ok14
open Fil14 DiskH14 SDk14 SOk14 SRd14 SLess14 SRef14 SCom14 SPut14 Pure14 SAppend14 SSync14 SMove14 SDrop14 SCrash14
theorem ok_put{room:Int}{ps:List TF}{f:TF}{k:Nat}(h:OkD room ps)(hk:k<ps.length)(hf:f.1=(elF ps k).1)(hs:(sumZ ps:Int) -((elF ps k).2.1.size+(elF ps k).2.2.size)+(f.2.1.size+f.2.2.size)≤room):OkD room (putF ps f):=by
 obtain⟨ha,hn⟩:=asc_of h
 have s1:=sum_rest ha hk
 have s2:=sum_put f ha
 rw[hf] at s2
 refine okd_of h.1 (by omega) (put_asc f ha) (put_named ha hn ?_)
 rw[hf]
 exact hn _ (elF_mem hk)
theorem ok_new{room:Int}{ps:List TF}{f:TF}(h:OkD room ps)(hn':0≤f.1∧f.1≤21)(hf:∀p∈ps,p.1≠f.1)(hs:(sumZ ps:Int)+(f.2.1.size+f.2.2.size)≤room):OkD room (putF ps f):=by
 obtain⟨ha,hn⟩:=asc_of h
 have s1:=sum_new ha hf
 have s2:=sum_put f ha
 exact okd_of h.1 (by omega) (put_asc f ha) (put_named ha hn hn')
theorem ok_append{room:Int}{ps:List TF}{nm:Int}{s:ByteArray}(h:OkD room ps)(hn:okN nm=true)(hs:(s.size:Int)≤room-sumZ ps):OkD room (putF ps (appF ps nm s)):=by
 by_cases q:0≤findF ps nm
 ·obtain⟨k,e,l,m⟩:=findF_in q
  have ef:appF ps nm s=((elF ps k).1,(elF ps k).2.1,(elF ps k).2.2++s):=by unfold appF;rw[if_pos q,e];rfl
  refine ok_put h l (by rw[ef]) ?_
  rw[ef]
  simp only[ByteArray.size_append]
  omega
 ·have ef:appF ps nm s=(nm,⟨#[]⟩,s):=by unfold appF;rw[if_neg q]
  refine ok_new h (by rw[ef];exact ok_named.1 hn) (fun p hp=>?_) ?_
  ·rw[ef]
   exact find_neg (nm:=nm) (by omega) p hp
  ·rw[ef]
   have:(⟨#[]⟩:ByteArray).size=0:=rfl
   simp only[this]
   omega
theorem ok_sync{room:Int}{ps:List TF}{nm:Int}(q:(atD room ps nm).2=0):OkD room (putF ps (nm,bytesAt ps (atD room ps nm).1.toNat,ByteArray.empty)):=by
 obtain⟨ok,_,k,e,l,m⟩:=at_in q
 rw[e]
 refine ok_put ok l (by simpa using m.symm) ?_
 have:ByteArray.empty.size=0:=rfl
 have b:(bytesAt ps k).size=(elF ps k).2.1.size+(elF ps k).2.2.size:=by unfold bytesAt;rw[ByteArray.size_append]
 simp only[Int.toNat_natCast,this,b]
 have:=ok.2.2.1
 omega
theorem ok_less{room:Int}{ps:List TF}{k:Nat}(ok:OkD room ps)(l:k<ps.length):OkD room (lessN ps k ps.length)∧(sumZ (lessN ps k ps.length):Int)=sumZ ps-((elF ps k).2.1.size+(elF ps k).2.2.size):=by
 obtain⟨ha,hn⟩:=asc_of ok
 have s1:=sum_rest ha l
 have s2:sumZ (lessN ps k ps.length)=sumZ (lows ps (elF ps k).1)+sumZ (highs ps (elF ps k).1):=by rw[less_is ha l,sumZ_append]
 have:=ok.2.2.1
 exact⟨okd_of ok.1 (by omega) (less_asc ha l) (fun p hp=>hn p ((less_mem ha l).1 hp).1),by omega⟩
theorem ok_move{room:Int}{ps:List TF}{nm to:Int}(q:(atD room ps nm).2=0)(ht:okN to=true):OkD room (putF (lessN ps (atD room ps nm).1 ps.length) (to,(elF ps (atD room ps nm).1.toNat).2.1,(elF ps (atD room ps nm).1.toNat).2.2)):=by
 obtain⟨ok,_,k,e,l,m⟩:=at_in q
 rw[e]
 simp only[Int.toNat_natCast]
 obtain⟨o1,s1⟩:=ok_less ok l
 have sr:=ok.2.2.1
 by_cases c:0≤findF (lessN ps k ps.length) to
 ·obtain⟨j,_,lj,mj⟩:=findF_in c
  refine ok_put o1 lj (by simpa using mj.symm) ?_
  simp only
  omega
 ·exact ok_new o1 (ok_named.1 ht) (find_neg (nm:=to) (by omega)) (by simp only;omega)
end Ok14
namespace Okk14
open Fil14 DiskH14 SDk14 SOk14 SRd14 SLess14 SRef14 SCom14 SPut14 Pure14 SAppend14 SSync14 SMove14 SDrop14 SCrash14 Ok14
def Rg(r:(Int×List TF)×Int):Prop:=r.2≠1→OkD r.1.1 r.1.2
theorem ref_ok{code room:Int}{ps:List TF}(h:OkD room ps)(q:code≠1):OkD (refD code room ps).1 (refD code room ps).2:=by
 unfold refD
 rw[if_neg q]
 exact h
theorem rg_append{room:Int}{ps:List TF}(nm:Int)(s:ByteArray)(h:OkD room ps):Rg (appendD room ps nm s):=by
 unfold Rg appendD
 by_cases q:OkD room ps∧okN nm=true
 ·rw[if_pos q]
  split
  ·exact fun _=>h
  ·rename_i g
   exact fun _=>show OkD room (putF ps (appF ps nm s)) from ok_append h q.2 (by omega)
 ·rw[if_neg q]
  exact fun e=>absurd rfl e
theorem rg_sync{room:Int}{ps:List TF}(nm:Int)(h:OkD room ps):Rg (syncD room ps nm):=by
 unfold Rg syncD
 by_cases q:(atD room ps nm).2=0
 ·rw[if_pos q]
  exact fun _=>ok_sync q
 ·rw[if_neg q]
  exact fun e=>ref_ok h e
theorem rg_move{room:Int}{ps:List TF}(nm to:Int)(h:OkD room ps):Rg (moveD room ps nm to):=by
 unfold Rg moveD
 by_cases c:okN to=true∧nm≠to
 ·rw[if_pos c]
  by_cases q:(atD room ps nm).2=0
  ·rw[if_pos q]
   exact fun _=>ok_move q c.1
  ·rw[if_neg q]
   exact fun e=>ref_ok h e
 ·rw[if_neg c]
  exact fun e=>absurd rfl e
end Okk14
namespace Law14
open Fil14 OpensF14 DiskH14 DkH14 SCom14
section
variable {w W W':World} {k:Int} {a:Option Addr} {len cap:Nat} {ps:List TF}
end
structure Kd(W:World)(g:Nat)(x:Dx):Prop where
 c0:W.cell? ⟨g,0,none⟩=some (.int .i64 x.room)
 c1:W.cell? ⟨g,1,none⟩=some (.slice x.a x.ps.length x.c)
 lt:g<W.heap.size
theorem Kd.made(w:World)(x:Dx)(e:TypeId):Kd (w.alloc (.cells #[.int .i64 x.room,.slice x.a x.ps.length x.c] e)) w.heap.size x:=⟨by simp,by simp,by simp⟩
theorem own_lt{W:World}{base g:Nat}{y:Dx}(h:OwD W base y)(e:(Value.slice y.a y.ps.length y.c).ownBlock=some g):base≤g∧g<W.heap.size:=World.ownsRow.lt h g e
end Law14
namespace LenAppend14
open Fil14 OpensF14 DiskH14 DkH14 SDk14 SOk14 SRd14 App14 SLess14 SCopy14 SRef14 SCom14 SPut14 SAppend14
theorem putN_len(ps:List TF)(f:TF):∀k,(putN ps f k).1.length≤k+(if(putN ps f k).2=true then 1 else 0)
 |0=>by simp[putN]
 |k+1=>by
  have ih:=putN_len ps f k
  obtain⟨L,pb⟩:∃L,∃pb,putN ps f k=(L,pb):=⟨_,_,rfl⟩
  obtain⟨pb,e⟩:=pb
  rw[putN_succ e]
  rw[e] at ih
  simp only at ih⊢
  generalize elF ps k=p
  cases pb<;>by_cases a:f.1≤p.1<;>by_cases b:p.1=f.1<;>simp[a,b] at ih⊢<;>omega
theorem put_len(ps:List TF)(f:TF):(putF ps f).length≤ps.length+1:=by
 have h:=putN_len ps f ps.length
 unfold putF
 split
 ·rename_i q
  rw[if_pos q] at h
  exact h
 ·rename_i q
  rw[if_neg q] at h
  simp
  omega
theorem len_append{room:Int}{ps:List TF}(nm:Int)(s:ByteArray)(h:ps.length≤1048576):(appendD room ps nm s).1.2.length≤1048576:=by
 unfold appendD
 by_cases q:OkD room ps∧okN nm=true
 ·rw[if_pos q]
  split
  ·exact h
  ·have:=put_len ps (appF ps nm s)
   have:=q.1.2.1
   show(putF _ _).length≤_
   omega
 ·rw[if_neg q]
  simp
end LenAppend14
namespace LenSync14
open Fil14 OpensF14 DiskH14 DkH14 SDk14 SOk14 SRd14 App14 SLess14 SCopy14 SRef14 SCom14 SPut14 SSync14
theorem ref_len{code room:Int}{ps:List TF}(h:ps.length≤1048576):(refD code room ps).2.length≤1048576:=by
 unfold refD
 split
 ·simp
 ·exact h
theorem putN_len(ps:List TF)(f:TF):∀k,(putN ps f k).1.length≤k+(if(putN ps f k).2=true then 1 else 0)
 |0=>by simp[putN]
 |k+1=>by
  have ih:=putN_len ps f k
  obtain⟨L,pb⟩:∃L,∃pb,putN ps f k=(L,pb):=⟨_,_,rfl⟩
  obtain⟨pb,e⟩:=pb
  rw[putN_succ e]
  rw[e] at ih
  simp only at ih⊢
  generalize elF ps k=p
  cases pb<;>by_cases a:f.1≤p.1<;>by_cases b:p.1=f.1<;>simp[a,b] at ih⊢<;>omega
theorem put_len(ps:List TF)(f:TF):(putF ps f).length≤ps.length+1:=by
 have h:=putN_len ps f ps.length
 unfold putF
 split
 ·rename_i q
  rw[if_pos q] at h
  exact h
 ·rename_i q
  rw[if_neg q] at h
  simp
  omega
theorem len_sync{room:Int}{ps:List TF}(nm:Int)(h:ps.length≤1048576):(syncD room ps nm).1.2.length≤1048576:=by
 unfold syncD
 by_cases q:(atD room ps nm).2=0
 ·rw[if_pos q]
  have:=put_len ps (nm,bytesAt ps (atD room ps nm).1.toNat,ByteArray.empty)
  have:=(at_in q).1.2.1
  show(putF _ _).length≤_
  omega
 ·rw[if_neg q]
  exact ref_len h
end LenSync14
namespace LenMove14
open Fil14 OpensF14 DiskH14 DkH14 SDk14 SOk14 SRd14 App14 SLess14 SCopy14 SRef14 SCom14 SPut14 SMove14
theorem ref_len{code room:Int}{ps:List TF}(h:ps.length≤1048576):(refD code room ps).2.length≤1048576:=by
 unfold refD
 split
 ·simp
 ·exact h
theorem putN_len(ps:List TF)(f:TF):∀k,(putN ps f k).1.length≤k+(if(putN ps f k).2=true then 1 else 0)
 |0=>by simp[putN]
 |k+1=>by
  have ih:=putN_len ps f k
  obtain⟨L,pb⟩:∃L,∃pb,putN ps f k=(L,pb):=⟨_,_,rfl⟩
  obtain⟨pb,e⟩:=pb
  rw[putN_succ e]
  rw[e] at ih
  simp only at ih⊢
  generalize elF ps k=p
  cases pb<;>by_cases a:f.1≤p.1<;>by_cases b:p.1=f.1<;>simp[a,b] at ih⊢<;>omega
theorem put_len(ps:List TF)(f:TF):(putF ps f).length≤ps.length+1:=by
 have h:=putN_len ps f ps.length
 unfold putF
 split
 ·rename_i q
  rw[if_pos q] at h
  exact h
 ·rename_i q
  rw[if_neg q] at h
  simp
  omega
theorem len_move{room:Int}{ps:List TF}(nm to:Int)(h:ps.length≤1048576):(moveD room ps nm to).1.2.length≤1048576:=by
 unfold moveD
 split
 ·by_cases q:(atD room ps nm).2=0
  ·rw[if_pos q]
   have:=put_len (lessN ps (atD room ps nm).1 ps.length) (to,(elF ps (atD room ps nm).1.toNat).2.1,(elF ps (atD room ps nm).1.toNat).2.2)
   have:=less_len ps (atD room ps nm).1 ps.length
   have:=(at_in q).1.2.1
   show(putF _ _).length≤_
   omega
  ·rw[if_neg q]
   exact ref_len h
 ·exact ref_len h
end LenMove14
namespace IFile14
open Fil14 OpensF14 DiskH14 DkH14 SDk14 SOk14
theorem iName(w:World)(n:Int):Calls Tryz.prog 153 #[.int .i64 n] w fun e w'=>e= .returned (.bool (okN n))∧w'=w:=by
 unfold okN
 by_cases h0:0≤n
 ·by_cases h1:n≤21
  ·rw[decide_eq_true ⟨h0,h1⟩]
   have a:n≥0:=h0
   have b:n<22:=by omega
   clear h1
   go_enter Tryz.func153,Tryz.ntmps153
   go_wp2
   go_ret
   exact⟨rfl,rfl⟩
  ·rw[decide_eq_false (fun q=>h1 q.2)]
   have a:n≥0:=h0
   have b:¬n<22:=by omega
   clear h1
   go_enter Tryz.func153,Tryz.ntmps153
   go_wp2
   go_ret
   exact⟨rfl,rfl⟩
 ·rw[decide_eq_false (fun q=>h0 q.1)]
  have a:¬n≥0:=h0
  go_enter Tryz.func153,Tryz.ntmps153
  go_wp2
  go_ret
  exact⟨rfl,rfl⟩
theorem iNameB(w:World)(n:Int)(b:Bool)(h:okN n=b):Calls Tryz.prog 153 #[.int .i64 n] w fun e w'=>e= .returned (.bool b)∧w'=w:=by
 rw[←h]
 exact iName w n
theorem iSizeF(w:World)(p0:Int)(p1 p2:ByteArray)(h:p1.size+p2.size≤1048576):Calls Tryz.prog 152 #[.agg #[.int .i64 p0,.string p1,.string p2]] w fun e w'=>e= .returned (.int .i64 ((p1.size:Int)+p2.size))∧Below w.heap.size w w':=by
 have B:=zh (one_more w (.cells #[.int .i64 p0,.string p1,.string p2] 81))
 have a1:wrap64 ((p1.size:Int)+p2.size)=p1.size+p2.size:=by rw[wrap64];omega
 go_enter Tryz.func152,Tryz.ntmps152
 go_wp2
 go_ret
 exact⟨rfl,zu B⟩
theorem iText(w:World)(p0:Int)(p1 p2:ByteArray)(h:p1.size+p2.size≤1048576):Calls Tryz.prog 206 #[.agg #[.int .i64 p0,.string p1,.string p2]] w fun e w'=>e= .returned (.string (p1++p2))∧Below w.heap.size w w':=by
 have B:=zh (one_more w (.cells #[.int .i64 p0,.string p1,.string p2] 81))
 go_enter Tryz.func206,Tryz.ntmps206
 go_wp2
 go_ret
 exact⟨rfl,zu B⟩
end IFile14
namespace IOk14
open Fil14 OpensF14 DiskH14 DkH14 SDk14 SOk14 IFile14
def Okk(ps:List TF)(room:Int)(k:Nat)(lf y:Int):Prop:=lf=room-sumZ (ps.take k)∧(k=0→y= -1)∧(0<k→y=(elF ps (k-1)).1)∧∀i,i<k→okAt ps i
theorem okk_0(ps:List TF)(room:Int):Okk ps room 0 room (-1):=⟨by simp[sumZ],fun _=>rfl,fun h=>absurd h (by omega),fun i h=>absurd h (by omega)⟩
theorem okk_next{ps:List TF}{room:Int}{k:Nat}{lf y:Int}(h:Okk ps room k lf y)(hk:k<ps.length)(a:okN (elF ps k).1=true)(b:¬(elF ps k).1≤y):Okk ps room (k+1) (lf-((elF ps k).2.1.size+(elF ps k).2.2.size)) (elF ps k).1:=by
 obtain⟨h1,h2,h3,h4⟩:=h
 have n:=sumZ_next hk
 refine⟨by omega,fun e=>absurd e (by omega),fun _=>by simp,fun i hi=>?_⟩
 by_cases e:i=k
 ·subst e
  refine⟨a,fun p=>?_⟩
  have:=h3 p
  omega
 ·exact h4 i (by omega)
theorem okk_bad1{ps:List TF}{room:Int}{k:Nat}(hk:k<ps.length)(a:okN (elF ps k).1=false):¬OkD room ps:=fun h=>by
 have:=(h.2.2.2 k hk).1
 rw[a] at this
 cases this
theorem okk_bad2{ps:List TF}{room:Int}{k:Nat}{lf y:Int}(g:Okk ps room k lf y)(hk:k<ps.length)(a:okN (elF ps k).1=true)(b:(elF ps k).1≤y):¬OkD room ps:=fun h=>by
 have n:=(h.2.2.2 k hk).2
 have l:0≤(elF ps k).1:=(of_decide_eq_true a).1
 by_cases e:k=0
 ·have:=g.2.1 e
  omega
 ·have:=g.2.2.1 (by omega)
  have:=n (by omega)
  omega
theorem okk_bad3{ps:List TF}{room:Int}{k:Nat}{lf y:Int}(g:Okk ps room k lf y)(hk:k<ps.length)(b:lf-((elF ps k).2.1.size+(elF ps k).2.2.size)<0):¬OkD room ps:=fun h=>by
 have n:=sumZ_next hk
 have l:=sumZ_le ps (k+1)
 have:=h.2.2.1
 have:=g.1
 omega
theorem names_up{ps:List TF}(h:∀i,i<ps.length→okAt ps i):∀i:Nat,i<ps.length→(i:Int)≤(elF ps i).1
 |0=>fun q=>by
  have:=(h 0 q).1
  exact(of_decide_eq_true this).1
 |i+1=>fun q=>by
  have:=names_up h i (by omega)
  have:=(h (i+1) q).2 (by omega)
  simp only[Nat.add_sub_cancel] at this
  omega
theorem okk_all{ps:List TF}{room:Int}{lf y:Int}(g:Okk ps room ps.length lf y)(h0:0≤room∧room≤60000)(hl:0≤lf):OkD room ps:=by
 obtain⟨h1,_,_,h4⟩:=g
 rw[List.take_length] at h1
 refine⟨h0,?_,by omega,h4⟩
 by_cases e:ps.length=0
 ·omega
 ·have a:=names_up h4 (ps.length-1) (by omega)
  have b:=(h4 (ps.length-1) (by omega)).1
  have b:=(of_decide_eq_true b).2
  omega
theorem iDiskOk(w:World)(x:Dx)(hr:RdD w x)(hz:sumZ x.ps≤1048576):
  Calls Tryz.prog 115 #[.agg #[.int .i64 x.room,.slice x.a x.ps.length x.c]] w fun e w'=>e= .returned (.bool (decide (OkD x.room x.ps)))∧Below w.heap.size w w':=by
 have W0:=zh (Wd.made hr 37)
 have h20:=hr.n
 clear hr
 generalize hR:decide (OkD x.room x.ps)=R
 have HR:=zh hR
 clear hR
 by_cases q0:x.room<0
 ·obtain rfl:R=false:=by rw[←zu HR];exact decide_eq_false (fun h=>by have:=h.1;omega)
  clear HR
  go_enter Tryz.func115,Tryz.ntmps115
  go_wp2
  go_ret
  exact⟨rfl,(zu W0).b⟩
 have d0:decide (x.room<0)=false:=decide_eq_false q0
 by_cases q1:x.room>60000
 ·obtain rfl:R=false:=by rw[←zu HR];exact decide_eq_false (fun h=>by have:=h.1;omega)
  clear HR q0
  go_enter Tryz.func115,Tryz.ntmps115
  go_wp2
  go_ret
  exact⟨rfl,(zu W0).b⟩
 have d1:decide (x.room>60000)=false:=decide_eq_false q1
 have RM:=zh (show 0≤x.room∧x.room≤60000 by omega)
 have OK0:=zh (okk_0 x.ps x.room)
 clear q0 q1
 go_enter Tryz.func115,Tryz.ntmps115
 go_wp2
 go_loopw [3,4,20] (fun l b i wr=>∃(k:Nat) (lf y:Int),k≤x.ps.length∧i= .int .i64 k∧l= .int .i64 lf∧b= .int .i64 y∧0≤lf∧lf≤60000∧Hid (Okk x.ps x.room k lf y)∧Hid (Wd w wr x)) (fun _ _ i _=>x.ps.length-(intOf i).toNat)
 case atStart=>exact⟨0,x.room,-1,by omega,rfl,rfl,rfl,(zu RM).1,(zu RM).2,OK0,W0⟩
 case round=>
  clear W0 OK0 d0 d1
  obtain⟨k,lf,y,hk,rfl,rfl,rfl,y0,y1,HY,HW⟩:=hrel
  by_cases t:k<x.ps.length
  ·have kt:(k:Int)<x.ps.length:=by omega
   have NX:=sumZ_next t
   have LE:=sumZ_le x.ps (k+1)
   have BAD1:=zh (fun a=>okk_bad1 (room:=x.room) t a)
   have BAD2:=zh (fun a b=>okk_bad2 (zu HY) t a b)
   have BAD3:=zh (fun a=>okk_bad3 (zu HY) t a)
   have GO:=zh (fun a b=>okk_next (zu HY) t a b)
   obtain⟨g,ea,lg,e0,e1,e2⟩:=cells_of (zu HW).r t
   have c1:=(zu HW).c1
   have lt:=(zu HW).lt
   generalize (elF x.ps k).1=z0 at *
   generalize (elF x.ps k).2.1=z1 at *
   generalize (elF x.ps k).2.2=z2 at *
   have b1:z1.size+z2.size≤1048576:=by omega
   obtain⟨lg2,hl⟩:∃q,q=lf-((z1.size:Int)+z2.size):=⟨_,rfl⟩
   have a2:wrap64 (lf-((z1.size:Int)+z2.size))=lg2:=by rw[wrap64];omega
   have S3:=zh (fun h:¬lg2<0=>show 0≤lg2∧lg2≤60000 by omega)
   have BAD4:=zh (fun h:lg2<0=>(zu BAD3) (by rw[←hl];exact h))
   rw[←hl] at GO
   clear hl BAD3
   clear NX LE HY
   have IX:=SCom14.ixF x.c ea t
   clear ea c1
   have OB:=zh (one_more wr (.cells #[.int .i64 z0,.string z1,.string z2] 81))
   have F0:(wr.alloc (.cells #[.int .i64 z0,.string z1,.string z2] 81)).cell? ⟨wr.heap.size,0,none⟩=some (.int .i64 z0):=by simp[go_sem]
   have FS:wr.heap.size<(wr.alloc (.cells #[.int .i64 z0,.string z1,.string z2] 81)).heap.size:=by simp
   have F:=zh (And.intro F0 FS)
   clear F0 FS
   go_wp2_with fail
   refine(iSizeF _ z0 z1 z2 b1).mono ?_
   rintro e w2 ⟨rfl,bb⟩
   have f0:=(bb.cell (p:=⟨wr.heap.size,0,none⟩) (zu F).2).trans (zu F).1
   have HW2:=zh (((zu HW).step (zu OB)).step bb)
   clear bb OB F HW e0 e1 e2 IX
   have D:=zh (fun u b h=>iNameB u z0 b h)
   clear b1
   by_cases n1:okN z0=true
   ·have N1:=zh n1
    clear n1
    by_cases n2:z0≤y
    ·obtain rfl:R=false:=by rw[←zu HR];exact decide_eq_false ((zu BAD2) (zu N1) n2)
     clear BAD1 BAD2 BAD4 GO HR
     go_wp2_with fail
     refine(zu D _ true (zu N1)).mono ?_
     rintro e u ⟨rfl,rfl⟩
     go_wp2
     go_ret
     exact⟨rfl,(zu HW2).b⟩
    ·have n2':decide (z0≤y)=false:=decide_eq_false n2
     have GO':=zh ((zu GO) (zu N1) (by omega))
     clear n2 GO BAD1 BAD2
     by_cases n3:lg2<0
     ·obtain rfl:R=false:=by rw[←zu HR];exact decide_eq_false ((zu BAD4) n3)
      clear BAD4 GO' HR
      go_wp2_with fail
      refine(zu D _ true (zu N1)).mono ?_
      rintro e u ⟨rfl,rfl⟩
      go_wp2
      go_ret
      exact⟨rfl,(zu HW2).b⟩
     ·have n3':decide (lg2<0)=false:=decide_eq_false n3
      have S:=zh ((zu S3) (by omega))
      clear n3 BAD4
      go_wp2_with fail
      refine(zu D _ true (zu N1)).mono ?_
      rintro e u ⟨rfl,rfl⟩
      go_wp2
      go_roundw
      case rel=>exact⟨k+1,lg2,z0,by omega,by go_num,rfl,rfl,(zu S).1,(zu S).2,GO',HW2⟩
      case measure=>simp[intOf];omega
   ·have n1':okN z0=false:=by simpa using n1
    obtain rfl:R=false:=by rw[←zu HR];exact decide_eq_false ((zu BAD1) n1')
    have N1:=zh n1'
    clear BAD1 BAD2 BAD4 GO HR n1 n1'
    go_wp2_with fail
    refine(zu D _ false (zu N1)).mono ?_
    rintro e u ⟨rfl,rfl⟩
    go_wp2
    go_ret
    exact⟨rfl,(zu HW2).b⟩
  ·have e:k=x.ps.length:=by omega
   have kt:¬(k:Int)<x.ps.length:=by omega
   obtain rfl:R=true:=by rw[←zu HR];exact decide_eq_true (okk_all (by rw[←e];exact zu HY) (zu RM) y0)
   clear HY HR
   subst e
   go_wp2
   go_ret
   exact⟨rfl,(zu HW).b⟩
end IOk14
namespace ISz14
open Fil14 OpensF14 DiskH14 DkH14 SDk14 SOk14 IFile14
theorem iSizeD(w:World)(x:Dx)(hr:RdD w x)(hz:sumZ x.ps≤1048576):
  Calls Tryz.prog 205 #[.agg #[.int .i64 x.room,.slice x.a x.ps.length x.c]] w fun e w'=>e= .returned (.int .i64 (sumZ x.ps))∧Below w.heap.size w w':=by
 have W0:=zh (Wd.made hr 37)
 have h20:=hr.n
 clear hr
 go_enter Tryz.func205,Tryz.ntmps205
 go_wp2
 go_loopw [3,9] (fun n i wr=>∃(k:Nat) (y:Int),k≤x.ps.length∧i= .int .i64 k∧n= .int .i64 y∧0≤y∧y≤1048576∧Hid (y=sumZ (x.ps.take k))∧Hid (Wd w wr x)) (fun _ i _=>x.ps.length-(intOf i).toNat)
 case atStart=>exact⟨0,0,by omega,rfl,rfl,by omega,by omega,zh (by simp[sumZ]),W0⟩
 case round=>
  clear W0
  obtain⟨k,y,hk,rfl,rfl,y0,y1,HY,HW⟩:=hrel
  by_cases t:k<x.ps.length
  ·have kt:(k:Int)<x.ps.length:=by omega
   have NX:=sumZ_next t
   have LE:=sumZ_le x.ps (k+1)
   have YE:=zu HY
   obtain⟨g,ea,lg,e0,e1,e2⟩:=cells_of (zu HW).r t
   have lt:=(zu HW).lt
   have IX:=SCom14.ixF x.c ea t
   generalize (elF x.ps k).1=z0 at *
   generalize (elF x.ps k).2.1=z1 at *
   generalize (elF x.ps k).2.2=z2 at *
   have b1:z1.size+z2.size≤1048576:=by omega
   have a2:wrap64 (y+((z1.size:Int)+z2.size))=y+((z1.size:Int)+z2.size):=by rw[wrap64];omega
   have NY:=zh (show 0≤y+((z1.size:Int)+z2.size)∧y+((z1.size:Int)+z2.size)≤1048576∧y+((z1.size:Int)+z2.size)=sumZ (x.ps.take (k+1)) by omega)
   clear NX LE YE HY ea
   have OB:=zh (one_more wr (.cells #[.int .i64 z0,.string z1,.string z2] 81))
   go_wp2_with fail
   refine(iSizeF _ z0 z1 z2 b1).mono ?_
   rintro e w2 ⟨rfl,bb⟩
   have HW2:=zh (((zu HW).step (zu OB)).step bb)
   clear bb OB HW e0 e1 e2 IX
   go_wp2
   go_roundw
   case rel=>exact⟨k+1,y+((z1.size:Int)+z2.size),by omega,by go_num,rfl,(zu NY).1,(zu NY).2.1,zh (zu NY).2.2,HW2⟩
   case measure=>simp[intOf];omega
  ·have e:k=x.ps.length:=by omega
   have E:=zh (show y=sumZ x.ps by have:=zu HY;rw[e,List.take_length] at this;exact this)
   have kt:¬(k:Int)<x.ps.length:=by omega
   clear HY
   subst e
   go_wp2
   go_ret
   exact⟨congrArg (fun z=>Ending.returned (.int .i64 z)) (zu E),(zu HW).b⟩
end ISz14
end Go.Proofs.YtppkkmaoaiopaaaGreat
