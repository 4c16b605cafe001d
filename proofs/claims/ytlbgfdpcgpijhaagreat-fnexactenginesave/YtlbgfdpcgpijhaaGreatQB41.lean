/- Texts of one proof. -/
import Derived.Test.YtlbgfdpcgpijhaaGreatQB34
open Go.ChangeShapes Go.WideShapes Go.ChangeAt Go.RowKit
set_option linter.unusedVariables false
set_option linter.unusedSimpArgs false
set_option maxRecDepth 100000
set_option maxHeartbeats 32000000
namespace Go.Proofs.YtlbgfdpcgpijhaaGreat
namespace ICom14
open Fil14 OpensF14 DiskH14 DkH14 SDk14 SOk14 SRd14 SLess14 SCom14 TabF14 ITb14
theorem iOkB(w:World)(x:Dx)(b:Bool)(hr:RdD w x)(hz:sumZ x.ps≤1048576)(h:decide (OkD x.room x.ps)=b):Calls Tryz.prog 32 #[.agg #[.int .i64 x.room,.slice x.a x.ps.length x.c]] w fun e w'=>e= .returned (.bool b)∧Below w.heap.size w w':=by
 rw[←h]
 exact IOk14.iDiskOk w x hr hz
structure St(w u:World)(x:Dx)(B n:Nat)(f:Int→Option TF):Prop where
 d:Wd w u x
 r:Bc u w.heap.size (w.heap.size+1) (.int .i64 0) (.slice none 0 0)
 t:Tf u B n f
 b:w.heap.size+2≤B
 xa:∀g,x.a=some ⟨g,0,none⟩→g<w.heap.size
theorem St.step{w u u':World}{x:Dx}{B n:Nat}{f:Int→Option TF}(h:St w u x B n f)(k:Below u.heap.size u u'):St w u' x B n f:=
 ⟨h.d.step k,h.r.below k h.r.lt.2,h.t.below k,h.b,h.xa⟩
theorem St.turn{w u u':World}{x:Dx}{B n n':Nat}{f f':Int→Option TF}(h:St w u x B n f)(t:Tf u' B n' f')(g:u.grownBy u' (some B)):St w u' x B n' f':=by
 have hb:=h.b
 exact⟨wd_grown h.d g (by omega) (fun k e=>by have:=h.xa k e;omega),h.r.kept g (by simp;omega),t,hb,h.xa⟩
theorem at_bad{room:Int}{ps:List TF}{nm:Int}(h:¬(OkD room ps∧okN nm=true)):atD room ps nm=(-1,1):=by
 unfold atD
 rw[if_neg h]
theorem at_none{room:Int}{ps:List TF}{nm:Int}(h1:OkD room ps)(h2:okN nm=true)(h:findF ps nm<0):atD room ps nm=(findF ps nm,2):=by
 unfold atD
 rw[if_pos ⟨h1,h2⟩,if_pos h]
theorem at_yes{room:Int}{ps:List TF}{nm:Int}{k:Nat}(h1:OkD room ps)(h2:okN nm=true)(h:findF ps nm=k):atD room ps nm=((k:Int),0):=by
 unfold atD
 rw[if_pos ⟨h1,h2⟩,h,if_neg (by omega)]
end ICom14
namespace IAppend14
open Fil14 OpensF14 DiskH14 DkH14 SDk14 SOk14 SRd14 App14 SLess14 SCopy14 SRef14 SCom14 SPut14 SAppend14 TabF14 PTab14 IFile14 ITb14 ICp14 IDk14 ICom14 ISz14
theorem iDiskAppend(w:World)(x:Dx)(nm:Int)(s:ByteArray)(hr:RdD w x)(hz:sumZ x.ps≤1048576)(hs:s.size≤9223372036854775807):Calls Tryz.prog 232 #[.agg #[.int .i64 x.room,.slice x.a x.ps.length x.c],.int .i64 nm,.string s] w (ToldD (appendD x.room x.ps nm s) w):=by
 have G0:=zh (begunD hr)
 have s2:((w.alloc (.cells #[.int .i64 x.room,.slice x.a x.ps.length x.c] 38)).alloc (.cells #[.int .i64 0,.slice none 0 0] 38)).heap.size=w.heap.size+2:=by simp
 have OK0:=zh (fun b h=>iOkB _ x b (zu G0).1.r hz h)
 have N_nm:=zh (fun u b h=>iNameB u nm b h)
 have XA:=zh (fun g e=>(hr.r g e).1)
 have h20:=hr.n
 clear hr
 by_cases ok:OkD x.room x.ps
 case neg=>
  have E:=zh (show appendD x.room x.ps nm s=((0,[]),1) by unfold appendD;rw[if_neg (fun h=>ok h.1)])
  generalize appendD x.room x.ps nm s=rr at *
  have OKD:=zh (decide_eq_false ok)
  clear ok
  go_enter Tryz.func232,Tryz.ntmps232
  go_wp2_with fail
  refine((zu OK0) false (zu OKD)).mono ?_
  rintro e u ⟨rfl,b1⟩
  have R2:=zh ((zu G0).2.below b1 (by omega))
  have WU:=zh ((zu G0).1.step b1)
  have us:=b1.size
  rw[s2] at us
  clear b1 G0 OK0 s2
  have c0:=(zu WU).c0
  have c1:=(zu WU).c1
  have lt:=(zu WU).lt
  have EN:=zh (endedD (y:=⟨0,none,0,[]⟩) (base0:=w.heap.size+2) (zu WU).b (zu R2) ⟨rfl,.inl ⟨rfl,rfl⟩⟩ (by omega))
  have f0:=(zu R2).free 0
  have f1:=(zu R2).free 1
  have r0:=(zu R2).c0
  have r1:=(zu R2).c1
  clear c0 c1 lt
  go_wp2
  refine bodyPost_ret (v:= .tuple #[.agg #[.int .i64 0,.slice none 0 0],.int .i64 1]) (by simp[results,Tryz.results232,go_sem,r0,r1]) rfl ?_
  rw[zu E]
  exact⟨⟨0,none,0,[]⟩,rfl,rfl,(zu EN).1,(zu EN).2⟩
 have OKD:=zh (decide_eq_true ok)
 have OK:=zh ok
 by_cases nk:okN nm=true
 case neg=>
  have E:=zh (show appendD x.room x.ps nm s=((0,[]),1) by unfold appendD;rw[if_neg (fun h=>nk h.2)])
  generalize appendD x.room x.ps nm s=rr at *
  have NK:=zh (show okN nm=false by simpa using nk)
  clear ok nk
  go_enter Tryz.func232,Tryz.ntmps232
  go_wp2_with fail
  refine((zu OK0) true (zu OKD)).mono ?_
  rintro e u ⟨rfl,b1⟩
  have R2:=zh ((zu G0).2.below b1 (by omega))
  have WU:=zh ((zu G0).1.step b1)
  have us:=b1.size
  rw[s2] at us
  clear b1 G0 OK0 s2
  have c0:=(zu WU).c0
  have c1:=(zu WU).c1
  have lt:=(zu WU).lt
  go_wp2_with fail
  refine((zu N_nm) _ false (zu NK)).mono ?_
  rintro e u ⟨rfl,rfl⟩
  have EN:=zh (endedD (y:=⟨0,none,0,[]⟩) (base0:=w.heap.size+2) (zu WU).b (zu R2) ⟨rfl,.inl ⟨rfl,rfl⟩⟩ (by omega))
  have f0:=(zu R2).free 0
  have f1:=(zu R2).free 1
  have r0:=(zu R2).c0
  have r1:=(zu R2).c1
  clear c0 c1 lt
  go_wp2
  refine bodyPost_ret (v:= .tuple #[.agg #[.int .i64 0,.slice none 0 0],.int .i64 1]) (by simp[results,Tryz.results232,go_sem,r0,r1]) rfl ?_
  rw[zu E]
  exact⟨⟨0,none,0,[]⟩,rfl,rfl,(zu EN).1,(zu EN).2⟩
 have NK:=zh nk
 have WF:=zh (wf_ok nk)
 have TL:=zh (tl_ok ok)
 have RE:=zh (show appendD x.room x.ps nm s=if x.room-sumZ x.ps<s.size then((x.room,x.ps),3) else((x.room,putF x.ps (appF x.ps nm s)),0) by unfold appendD;rw[if_pos ⟨ok,nk⟩])
 generalize appendD x.room x.ps nm s=rr at *
 have z60:=ok.1
 have zr:=ok.2.2.1
 obtain⟨p,HP,EA,SP⟩:∃p:TF,(tabOf x.ps nm).getD z0=p∧appF x.ps nm s=(nm,p.2.1,p.2.2++s)∧p.2.1.size+p.2.2.size≤1048576:=by
  unfold appF
  by_cases q:findF x.ps nm<0
  ·have FN:=tl_no (zu TL) q
   refine⟨z0,by rw[FN];rfl,?_,by simp⟩
   rw[if_neg (by omega)]
   show(nm,ByteArray.empty,s)=(nm,ByteArray.empty,ByteArray.empty++s)
   rw[ByteArray.empty_append]
  ·obtain⟨k,ek,kl,en⟩:=findF_in (ps:=x.ps) (nm:=nm) (by omega)
   have FY:=tl_yes (zu TL) kl en
   refine⟨elF x.ps k,by rw[FY];rfl,?_,el_size hz kl⟩
   rw[if_pos (by omega),ek,Int.toNat_natCast,en]
 have ROW:=zh (tl_row (tl_put (zu TL) (appF x.ps nm s) (by rw[EA];exact Pure14.ok_named.1 nk)))
 rw[EA] at ROW RE
 obtain⟨p0,p1,p2⟩:=p
 have HP:=zh HP
 simp only at ROW RE SP
 obtain⟨b,hb⟩:∃b,decide ((s.size:Int)>x.room-sumZ x.ps)=b:=⟨_,rfl⟩
 have HB:=zh hb
 have wr:wrap64 (x.room-sumZ x.ps)=x.room-sumZ x.ps:=by rw[wrap64];omega
 have wr2:IntKind.i64.wrap (x.room-sumZ x.ps)=x.room-sumZ x.ps:=by rw[IntKind.wrap_i64];omega
 clear EA TL ok nk
 go_enter Tryz.func232,Tryz.ntmps232
 go_wp2_with fail
 refine((zu OK0) true (zu OKD)).mono ?_
 rintro e u ⟨rfl,b1⟩
 have R2:=zh ((zu G0).2.below b1 (by omega))
 have WU:=zh ((zu G0).1.step b1)
 have us:=b1.size
 rw[s2] at us
 clear b1 G0 OK0 s2
 have c0:=(zu WU).c0
 have c1:=(zu WU).c1
 have lt:=(zu WU).lt
 go_wp2_with fail
 refine((zu N_nm) _ true (zu NK)).mono ?_
 rintro e u ⟨rfl,rfl⟩
 have K0:u.cell? ⟨w.heap.size,0,none⟩=some (.int .i64 x.room)∧u.cell? ⟨w.heap.size,1,none⟩=some (.slice x.a x.ps.length x.c):=⟨c0,c1⟩
 go_wp2_with fail
 refine wp_region_held_drew (S:=(fun w'=>w'.cell? ⟨w.heap.size,0,none⟩=some (.int .i64 x.room)∧w'.cell? ⟨w.heap.size,1,none⟩=some (.slice x.a x.ps.length x.c))) (by kernel_rfl) K0 (fun hHeld=>?_)
 refine zT 0 19 (.string s) rfl hHeld ?_
 refine zT 1 20 (.int .i64 s.size) rfl hHeld ?_
 refine zT 2 21 (.pointer (some ⟨w.heap.size,0,none⟩)) rfl hHeld ?_
 refine zT 3 22 (.int .i64 x.room) rfl hHeld ?_
 refine zT 4 23 (.agg #[.int .i64 x.room,.slice x.a x.ps.length x.c]) rfl hHeld ?_
 try simp only[Act.put,zA,zB,zC]
 refine zR 5 rfl (fun K hK=>?_)
 go_simp
 go_wp2_with fail
 refine(iSizeD u.drew x (zu WU).drew.r hz).mono ?_
 rintro e v ⟨rfl,bb⟩
 have bb1:Below u.heap.size u v:=⟨bb.os,bb.tape,bb.output,bb.size,bb.block⟩
 have WV:=zh ((zu WU).step bb1)
 have RV:=zh ((zu R2).below bb1 (zu R2).lt.2)
 have K1:v.cell? ⟨w.heap.size,0,none⟩=some (.int .i64 x.room)∧v.cell? ⟨w.heap.size,1,none⟩=some (.slice x.a x.ps.length x.c):=⟨(zu WV).c0,(zu WV).c1⟩
 have vs:=bb1.size
 clear bb bb1
 go_wp2_with fail
 refine hK.out _ _ K1 (fun hHeld=>?_)
 clear hK K
 refine zT 6 25 (.int .i64 (x.room-sumZ x.ps)) rfl hHeld ?_
 refine zT 7 26 (.bool b) rfl hHeld ?_
 try simp only[Act.put,zA,zB,zC]
 refine wpAnyH_done (by kernel_rfl) ?_ _
 clear K0 K1 c0 c1 lt WU R2 wr wr2
 cases b with
 |true=>
  have E:=zh (show rr=((x.room,x.ps),3) by rw[zu RE,if_pos (by have:=zu HB;simpa using this)])
  have c0:=(zu WV).c0
  have c1:=(zu WV).c1
  have lt:=(zu WV).lt
  clear hb HB RE ROW HP
  go_wp2_with fail
  refine(iCopied _ x (zu WV).r).mono ?_
  rintro e u9 ⟨y,hy0,hy,rfl,oy,b9⟩
  have R9:=zh ((zu RV).below b9 (zu RV).lt.2)
  have HY:=zh (show(y.room,y.ps)=(x.room,x.ps) by rw[hy0,hy])
  have sz9:=(zu RV).lt.2
  have EN:=zh (endedD ((zu WV).b.trans (b9.mono (zu WV).b.size)) (zu R9) oy (by omega))
  have f0:=(zu R9).free 0
  have f1:=(zu R9).free 1
  have r0:=(zu R9).c0
  have r1:=(zu R9).c1
  clear b9 oy hy0 hy c0 c1 lt
  go_wp2
  refine bodyPost_ret (v:= .tuple #[.agg #[.int .i64 y.room,.slice y.a y.ps.length y.c],.int .i64 3]) (by simp[results,Tryz.results232,go_sem,r0,r1]) rfl ?_
  rw[zu E]
  exact⟨y,zu HY,rfl,(zu EN).1,(zu EN).2⟩
 |false=>
  have E:=zh (show rr=((x.room,putF x.ps (nm,p1,p2++s)),0) by rw[zu RE,if_neg (by have:=zu HB;simpa using this)])
  have sr:(s.size:Int)≤x.room-sumZ x.ps:=by have:=zu HB;simpa using this
  have c0:=(zu WV).c0
  have c1:=(zu WV).c1
  have lt:=(zu WV).lt
  clear hb HB RE
  go_wp2_with fail
  refine(iTable _ x (zu WV).r (wf_names (zu OK))).mono ?_
  rintro e u1 ⟨rfl,tt,b2⟩
  have S1:=zh (show St w u1 x (v.heap.size+1) x.ps.length (tabOf x.ps) from⟨(zu WV).step b2,(zu RV).below b2 (zu RV).lt.2,tt,by omega,zu XA⟩)
  have us1:=b2.size
  clear tt b2 WV RV c0 c1 lt
  have S2:=zh ((zu S1).step (one_more u1 (.cells #[.int .i64 p0,.string p1,.string p2] 64)))
  have sc:p2.size+s.size≤9223372036854775807:=by omega
  have c0:=(zu S2).d.c0
  have c1:=(zu S2).d.c1
  have lt:=(zu S2).d.lt
  go_wp2_with (first|(at_lookup;refine wp_look _ rfl _ _ rfl (v.heap.size+1) _ _ rfl (zu S1).t nm rfl (zu WF) _ (zu HP) ?_)|(at_mapUpdate;refine wp_put _ rfl _ _ _ rfl (v.heap.size+1) _ _ rfl (zu S2).t h20 nm (nm,p1,p2++s) rfl rfl (zu WF) ?_;intro u4 t4 g4;have S4:=zh ((zu S2).turn t4 g4);clear t4 g4 c0 c1 lt;have c0:=(zu S4).d.c0;have c1:=(zu S4).d.c1;have lt:=(zu S4).d.lt)|fail)
  refine(iDisk _ (v.heap.size+1) _ _ x.room (zu S4).t).mono ?_
  rintro e u9 ⟨y,hy0,hy,rfl,oy,b9⟩
  have R9:=zh ((zu S4).r.below b9 (zu S4).r.lt.2)
  have HY:=zh (show(y.room,y.ps)=(x.room,putF x.ps (nm,p1,p2++s)) by rw[hy0,hy,zu ROW])
  have sz9:=(zu S4).r.lt.2
  have EN:=zh (endedD ((zu S4).d.b.trans (b9.mono (zu S4).d.b.size)) (zu R9) oy (by omega))
  have f0:=(zu R9).free 0
  have f1:=(zu R9).free 1
  have r0:=(zu R9).c0
  have r1:=(zu R9).c1
  clear b9 oy hy0 hy c0 c1 lt
  go_wp2
  refine bodyPost_ret (v:= .tuple #[.agg #[.int .i64 y.room,.slice y.a y.ps.length y.c],.int .i64 0]) (by simp[results,Tryz.results232,go_sem,r0,r1]) rfl ?_
  rw[zu E]
  exact⟨y,zu HY,rfl,(zu EN).1,(zu EN).2⟩
end IAppend14
namespace ISync14
open Fil14 OpensF14 DiskH14 DkH14 SDk14 SOk14 SRd14 App14 SLess14 SCopy14 SRef14 SCom14 SPut14 SSync14 TabF14 PTab14 IFile14 ITb14 ICp14 IDk14 ICom14
theorem iDiskSync(w:World)(x:Dx)(nm:Int)(hr:RdD w x)(hz:sumZ x.ps≤1048576):Calls Tryz.prog 233 #[.agg #[.int .i64 x.room,.slice x.a x.ps.length x.c],.int .i64 nm] w (ToldD (syncD x.room x.ps nm) w):=by
 have G0:=zh (begunD hr)
 have s2:((w.alloc (.cells #[.int .i64 x.room,.slice x.a x.ps.length x.c] 38)).alloc (.cells #[.int .i64 0,.slice none 0 0] 38)).heap.size=w.heap.size+2:=by simp
 have OK0:=zh (fun b h=>iOkB _ x b (zu G0).1.r hz h)
 have N_nm:=zh (fun u b h=>iNameB u nm b h)
 have XA:=zh (fun g e=>(hr.r g e).1)
 have h20:=hr.n
 clear hr
 by_cases ok:OkD x.room x.ps
 case neg=>
  have E:=zh (show syncD x.room x.ps nm=((0,[]),1) by unfold syncD;rw[at_bad (fun h=>ok h.1)];rfl)
  generalize syncD x.room x.ps nm=rr at *
  have OKD:=zh (decide_eq_false ok)
  clear ok
  go_enter Tryz.func233,Tryz.ntmps233
  go_wp2_with fail
  refine((zu OK0) false (zu OKD)).mono ?_
  rintro e u ⟨rfl,b1⟩
  have R2:=zh ((zu G0).2.below b1 (by omega))
  have WU:=zh ((zu G0).1.step b1)
  have us:=b1.size
  rw[s2] at us
  clear b1 G0 OK0 s2
  have c0:=(zu WU).c0
  have c1:=(zu WU).c1
  have lt:=(zu WU).lt
  have EN:=zh (endedD (y:=⟨0,none,0,[]⟩) (base0:=w.heap.size+2) (zu WU).b (zu R2) ⟨rfl,.inl ⟨rfl,rfl⟩⟩ (by omega))
  have f0:=(zu R2).free 0
  have f1:=(zu R2).free 1
  have r0:=(zu R2).c0
  have r1:=(zu R2).c1
  clear c0 c1 lt
  go_wp2
  refine bodyPost_ret (v:= .tuple #[.agg #[.int .i64 0,.slice none 0 0],.int .i64 1]) (by simp[results,Tryz.results233,go_sem,r0,r1]) rfl ?_
  rw[zu E]
  exact⟨⟨0,none,0,[]⟩,rfl,rfl,(zu EN).1,(zu EN).2⟩
 have OKD:=zh (decide_eq_true ok)
 have OK:=zh ok
 by_cases nk:okN nm=true
 case neg=>
  have E:=zh (show syncD x.room x.ps nm=((0,[]),1) by unfold syncD;rw[at_bad (fun h=>nk h.2)];rfl)
  generalize syncD x.room x.ps nm=rr at *
  have NK:=zh (show okN nm=false by simpa using nk)
  clear ok nk
  go_enter Tryz.func233,Tryz.ntmps233
  go_wp2_with fail
  refine((zu OK0) true (zu OKD)).mono ?_
  rintro e u ⟨rfl,b1⟩
  have R2:=zh ((zu G0).2.below b1 (by omega))
  have WU:=zh ((zu G0).1.step b1)
  have us:=b1.size
  rw[s2] at us
  clear b1 G0 OK0 s2
  have c0:=(zu WU).c0
  have c1:=(zu WU).c1
  have lt:=(zu WU).lt
  go_wp2_with fail
  refine((zu N_nm) _ false (zu NK)).mono ?_
  rintro e u ⟨rfl,rfl⟩
  have EN:=zh (endedD (y:=⟨0,none,0,[]⟩) (base0:=w.heap.size+2) (zu WU).b (zu R2) ⟨rfl,.inl ⟨rfl,rfl⟩⟩ (by omega))
  have f0:=(zu R2).free 0
  have f1:=(zu R2).free 1
  have r0:=(zu R2).c0
  have r1:=(zu R2).c1
  clear c0 c1 lt
  go_wp2
  refine bodyPost_ret (v:= .tuple #[.agg #[.int .i64 0,.slice none 0 0],.int .i64 1]) (by simp[results,Tryz.results233,go_sem,r0,r1]) rfl ?_
  rw[zu E]
  exact⟨⟨0,none,0,[]⟩,rfl,rfl,(zu EN).1,(zu EN).2⟩
 have NK:=zh nk
 have WF:=zh (wf_ok nk)
 have TL:=zh (tl_ok ok)
 by_cases q:findF x.ps nm<0
 case pos=>
  have E:=zh (show syncD x.room x.ps nm=((x.room,x.ps),2) by unfold syncD;rw[at_none ok nk q];rfl)
  generalize syncD x.room x.ps nm=rr at *
  have FN:=tl_no (zu TL) q
  have HP:=zh (show(tabOf x.ps nm).getD z0=(0,ByteArray.empty,ByteArray.empty) by rw[FN];rfl)
  have HI:=zh (show(tabOf x.ps nm).isSome=false by rw[FN];rfl)
  clear ok nk q FN
  go_enter Tryz.func233,Tryz.ntmps233
  go_wp2_with fail
  refine((zu OK0) true (zu OKD)).mono ?_
  rintro e u ⟨rfl,b1⟩
  have R2:=zh ((zu G0).2.below b1 (by omega))
  have WU:=zh ((zu G0).1.step b1)
  have us:=b1.size
  rw[s2] at us
  clear b1 G0 OK0 s2
  have c0:=(zu WU).c0
  have c1:=(zu WU).c1
  have lt:=(zu WU).lt
  go_wp2_with fail
  refine((zu N_nm) _ true (zu NK)).mono ?_
  rintro e u ⟨rfl,rfl⟩
  go_wp2_with fail
  refine(iTable _ x (zu WU).r (wf_names (zu OK))).mono ?_
  rintro e u1 ⟨rfl,tt,b2⟩
  have S1:=zh (show St w u1 x (u.heap.size+1) x.ps.length (tabOf x.ps) from⟨(zu WU).step b2,(zu R2).below b2 (zu R2).lt.2,tt,by omega,zu XA⟩)
  have us1:=b2.size
  clear tt b2 WU R2 c0 c1 lt
  have S2:=zh ((zu S1).step (one_more u1 (.cells #[.int .i64 0,.string ByteArray.empty,.string ByteArray.empty] 64)))
  have c0:=(zu S2).d.c0
  have c1:=(zu S2).d.c1
  have lt:=(zu S2).d.lt
  go_wp2_with (first|(at_lookup;refine wp_have _ rfl _ _ rfl (u.heap.size+1) _ _ rfl (zu S1).t nm rfl (zu WF) _ false (zu HP) (zu HI) ?_)|fail)
  refine(iCopied _ x (zu S2).d.r).mono ?_
  rintro e u9 ⟨y,hy0,hy,rfl,oy,b9⟩
  have R9:=zh ((zu S2).r.below b9 (zu S2).r.lt.2)
  have HY:=zh (show(y.room,y.ps)=(x.room,x.ps) by rw[hy0,hy])
  have sz9:=(zu S2).r.lt.2
  have EN:=zh (endedD ((zu S2).d.b.trans (b9.mono (zu S2).d.b.size)) (zu R9) oy (by omega))
  have f0:=(zu R9).free 0
  have f1:=(zu R9).free 1
  have r0:=(zu R9).c0
  have r1:=(zu R9).c1
  clear b9 oy hy0 hy c0 c1 lt
  go_wp2
  refine bodyPost_ret (v:= .tuple #[.agg #[.int .i64 y.room,.slice y.a y.ps.length y.c],.int .i64 2]) (by simp[results,Tryz.results233,go_sem,r0,r1]) rfl ?_
  rw[zu E]
  exact⟨y,zu HY,rfl,(zu EN).1,(zu EN).2⟩
 obtain⟨k,ek,kl,en⟩:=findF_in (ps:=x.ps) (nm:=nm) (by omega)
 have E:=zh (show syncD x.room x.ps nm=((x.room,putF x.ps (nm,bytesAt x.ps k,ByteArray.empty)),0) by unfold syncD;rw[at_yes ok nk ek];rfl)
 generalize syncD x.room x.ps nm=rr at *
 have ROW:=zh (tl_row (tl_put (zu TL) (nm,bytesAt x.ps k,ByteArray.empty) (Pure14.ok_named.1 nk)))
 have BY:bytesAt x.ps k=(elF x.ps k).2.1++(elF x.ps k).2.2:=rfl
 have FY:=tl_yes (zu TL) kl en
 have SZ:=zh (el_size hz kl)
 have HP:=zh (show(tabOf x.ps nm).getD z0=((elF x.ps k).1,(elF x.ps k).2.1,(elF x.ps k).2.2) by rw[FY];rfl)
 have HI:=zh (show(tabOf x.ps nm).isSome=true by rw[FY];rfl)
 rw[BY] at ROW E
 clear ok nk q FY BY ek en TL
 generalize (elF x.ps k).1=p0 at *
 generalize (elF x.ps k).2.1=p1 at *
 generalize (elF x.ps k).2.2=p2 at *
 clear kl
 go_enter Tryz.func233,Tryz.ntmps233
 go_wp2_with fail
 refine((zu OK0) true (zu OKD)).mono ?_
 rintro e u ⟨rfl,b1⟩
 have R2:=zh ((zu G0).2.below b1 (by omega))
 have WU:=zh ((zu G0).1.step b1)
 have us:=b1.size
 rw[s2] at us
 clear b1 G0 OK0 s2
 have c0:=(zu WU).c0
 have c1:=(zu WU).c1
 have lt:=(zu WU).lt
 go_wp2_with fail
 refine((zu N_nm) _ true (zu NK)).mono ?_
 rintro e u ⟨rfl,rfl⟩
 go_wp2_with fail
 refine(iTable _ x (zu WU).r (wf_names (zu OK))).mono ?_
 rintro e u1 ⟨rfl,tt,b2⟩
 have S1:=zh (show St w u1 x (u.heap.size+1) x.ps.length (tabOf x.ps) from⟨(zu WU).step b2,(zu R2).below b2 (zu R2).lt.2,tt,by omega,zu XA⟩)
 have us1:=b2.size
 clear tt b2 WU R2 c0 c1 lt
 have S2:=zh ((zu S1).step (one_more u1 (.cells #[.int .i64 p0,.string p1,.string p2] 64)))
 have c0:=(zu S2).d.c0
 have c1:=(zu S2).d.c1
 have lt:=(zu S2).d.lt
 go_wp2_with (first|(at_lookup;refine wp_have _ rfl _ _ rfl (u.heap.size+1) _ _ rfl (zu S1).t nm rfl (zu WF) _ true (zu HP) (zu HI) ?_)|fail)
 refine(iText _ p0 p1 p2 (zu SZ)).mono ?_
 rintro e u3 ⟨rfl,b3⟩
 have S3:=zh ((zu S2).step b3)
 clear b3 c0 c1 lt S1
 have c0:=(zu S3).d.c0
 have c1:=(zu S3).d.c1
 have lt:=(zu S3).d.lt
 go_wp2_with (first|(at_mapUpdate;refine wp_put _ rfl _ _ _ rfl (u.heap.size+1) _ _ rfl (zu S3).t h20 nm (nm,p1++p2,ByteArray.empty) rfl rfl (zu WF) ?_;intro u4 t4 g4;have S4:=zh ((zu S3).turn t4 g4);clear t4 g4 c0 c1 lt;have c0:=(zu S4).d.c0;have c1:=(zu S4).d.c1;have lt:=(zu S4).d.lt)|fail)
 refine(iDisk _ (u.heap.size+1) _ _ x.room (zu S4).t).mono ?_
 rintro e u9 ⟨y,hy0,hy,rfl,oy,b9⟩
 have R9:=zh ((zu S4).r.below b9 (zu S4).r.lt.2)
 have HY:=zh (show(y.room,y.ps)=(x.room,putF x.ps (nm,p1++p2,ByteArray.empty)) by rw[hy0,hy,zu ROW])
 have sz9:=(zu S4).r.lt.2
 have EN:=zh (endedD ((zu S4).d.b.trans (b9.mono (zu S4).d.b.size)) (zu R9) oy (by omega))
 have f0:=(zu R9).free 0
 have f1:=(zu R9).free 1
 have r0:=(zu R9).c0
 have r1:=(zu R9).c1
 clear b9 oy hy0 hy c0 c1 lt
 go_wp2
 refine bodyPost_ret (v:= .tuple #[.agg #[.int .i64 y.room,.slice y.a y.ps.length y.c],.int .i64 0]) (by simp[results,Tryz.results233,go_sem,r0,r1]) rfl ?_
 rw[zu E]
 exact⟨y,zu HY,rfl,(zu EN).1,(zu EN).2⟩
end ISync14
namespace IMove14
open Fil14 OpensF14 DiskH14 DkH14 SDk14 SOk14 SRd14 App14 SLess14 SCopy14 SRef14 SCom14 SPut14 SMove14 TabF14 PTab14 IFile14 ITb14 ICp14 IDk14 ICom14
theorem iDiskMove(w:World)(x:Dx)(nm to:Int)(hr:RdD w x)(hz:sumZ x.ps≤1048576):Calls Tryz.prog 234 #[.agg #[.int .i64 x.room,.slice x.a x.ps.length x.c],.int .i64 nm,.int .i64 to] w (ToldD (moveD x.room x.ps nm to) w):=by
 have G0:=zh (begunD hr)
 have s2:((w.alloc (.cells #[.int .i64 x.room,.slice x.a x.ps.length x.c] 38)).alloc (.cells #[.int .i64 0,.slice none 0 0] 38)).heap.size=w.heap.size+2:=by simp
 have OK0:=zh (fun b h=>iOkB _ x b (zu G0).1.r hz h)
 have N_nm:=zh (fun u b h=>iNameB u nm b h)
 have N_to:=zh (fun u b h=>iNameB u to b h)
 have XA:=zh (fun g e=>(hr.r g e).1)
 have h20:=hr.n
 clear hr
 by_cases ok:OkD x.room x.ps
 case neg=>
  have E:=zh (show moveD x.room x.ps nm to=((0,[]),1) by
   unfold moveD
   split
   ·rw[at_bad (fun h=>ok h.1)];rfl
   ·rfl)
  generalize moveD x.room x.ps nm to=rr at *
  have OKD:=zh (decide_eq_false ok)
  clear ok
  go_enter Tryz.func234,Tryz.ntmps234
  go_wp2_with fail
  refine((zu OK0) false (zu OKD)).mono ?_
  rintro e u ⟨rfl,b1⟩
  have R2:=zh ((zu G0).2.below b1 (by omega))
  have WU:=zh ((zu G0).1.step b1)
  have us:=b1.size
  rw[s2] at us
  clear b1 G0 OK0 s2
  have c0:=(zu WU).c0
  have c1:=(zu WU).c1
  have lt:=(zu WU).lt
  have EN:=zh (endedD (y:=⟨0,none,0,[]⟩) (base0:=w.heap.size+2) (zu WU).b (zu R2) ⟨rfl,.inl ⟨rfl,rfl⟩⟩ (by omega))
  have f0:=(zu R2).free 0
  have f1:=(zu R2).free 1
  have r0:=(zu R2).c0
  have r1:=(zu R2).c1
  clear c0 c1 lt
  go_wp2
  refine bodyPost_ret (v:= .tuple #[.agg #[.int .i64 0,.slice none 0 0],.int .i64 1]) (by simp[results,Tryz.results234,go_sem,r0,r1]) rfl ?_
  rw[zu E]
  exact⟨⟨0,none,0,[]⟩,rfl,rfl,(zu EN).1,(zu EN).2⟩
 have OKD:=zh (decide_eq_true ok)
 have OK:=zh ok
 by_cases nk:okN nm=true
 case neg=>
  have E:=zh (show moveD x.room x.ps nm to=((0,[]),1) by
   unfold moveD
   split
   ·rw[at_bad (fun h=>nk h.2)];rfl
   ·rfl)
  generalize moveD x.room x.ps nm to=rr at *
  have NK:=zh (show okN nm=false by simpa using nk)
  clear ok nk
  go_enter Tryz.func234,Tryz.ntmps234
  go_wp2_with fail
  refine((zu OK0) true (zu OKD)).mono ?_
  rintro e u ⟨rfl,b1⟩
  have R2:=zh ((zu G0).2.below b1 (by omega))
  have WU:=zh ((zu G0).1.step b1)
  have us:=b1.size
  rw[s2] at us
  clear b1 G0 OK0 s2
  have c0:=(zu WU).c0
  have c1:=(zu WU).c1
  have lt:=(zu WU).lt
  go_wp2_with fail
  refine((zu N_nm) _ false (zu NK)).mono ?_
  rintro e u ⟨rfl,rfl⟩
  have EN:=zh (endedD (y:=⟨0,none,0,[]⟩) (base0:=w.heap.size+2) (zu WU).b (zu R2) ⟨rfl,.inl ⟨rfl,rfl⟩⟩ (by omega))
  have f0:=(zu R2).free 0
  have f1:=(zu R2).free 1
  have r0:=(zu R2).c0
  have r1:=(zu R2).c1
  clear c0 c1 lt
  go_wp2
  refine bodyPost_ret (v:= .tuple #[.agg #[.int .i64 0,.slice none 0 0],.int .i64 1]) (by simp[results,Tryz.results234,go_sem,r0,r1]) rfl ?_
  rw[zu E]
  exact⟨⟨0,none,0,[]⟩,rfl,rfl,(zu EN).1,(zu EN).2⟩
 have NK:=zh nk
 have WF:=zh (wf_ok nk)
 have TL:=zh (tl_ok ok)
 by_cases tk:okN to=true
 case neg=>
  have E:=zh (show moveD x.room x.ps nm to=((0,[]),1) by unfold moveD;rw[if_neg (fun h=>tk h.1)];rfl)
  generalize moveD x.room x.ps nm to=rr at *
  have TK:=zh (show okN to=false by simpa using tk)
  clear ok nk tk
  go_enter Tryz.func234,Tryz.ntmps234
  go_wp2_with fail
  refine((zu OK0) true (zu OKD)).mono ?_
  rintro e u ⟨rfl,b1⟩
  have R2:=zh ((zu G0).2.below b1 (by omega))
  have WU:=zh ((zu G0).1.step b1)
  have us:=b1.size
  rw[s2] at us
  clear b1 G0 OK0 s2
  have c0:=(zu WU).c0
  have c1:=(zu WU).c1
  have lt:=(zu WU).lt
  go_wp2_with fail
  refine((zu N_nm) _ true (zu NK)).mono ?_
  rintro e u ⟨rfl,rfl⟩
  go_wp2_with fail
  refine((zu N_to) _ false (zu TK)).mono ?_
  rintro e u ⟨rfl,rfl⟩
  have EN:=zh (endedD (y:=⟨0,none,0,[]⟩) (base0:=w.heap.size+2) (zu WU).b (zu R2) ⟨rfl,.inl ⟨rfl,rfl⟩⟩ (by omega))
  have f0:=(zu R2).free 0
  have f1:=(zu R2).free 1
  have r0:=(zu R2).c0
  have r1:=(zu R2).c1
  clear c0 c1 lt
  go_wp2
  refine bodyPost_ret (v:= .tuple #[.agg #[.int .i64 0,.slice none 0 0],.int .i64 1]) (by simp[results,Tryz.results234,go_sem,r0,r1]) rfl ?_
  rw[zu E]
  exact⟨⟨0,none,0,[]⟩,rfl,rfl,(zu EN).1,(zu EN).2⟩
 have TK:=zh tk
 have WT:=zh (wf_ok tk)
 by_cases ne:nm=to
 case pos=>
  have E:=zh (show moveD x.room x.ps nm to=((0,[]),1) by unfold moveD;rw[if_neg (fun h=>h.2 ne)];rfl)
  generalize moveD x.room x.ps nm to=rr at *
  have eb:(nm==to)=true:=by simpa using ne
  clear ok nk tk ne
  go_enter Tryz.func234,Tryz.ntmps234
  go_wp2_with fail
  refine((zu OK0) true (zu OKD)).mono ?_
  rintro e u ⟨rfl,b1⟩
  have R2:=zh ((zu G0).2.below b1 (by omega))
  have WU:=zh ((zu G0).1.step b1)
  have us:=b1.size
  rw[s2] at us
  clear b1 G0 OK0 s2
  have c0:=(zu WU).c0
  have c1:=(zu WU).c1
  have lt:=(zu WU).lt
  go_wp2_with fail
  refine((zu N_nm) _ true (zu NK)).mono ?_
  rintro e u ⟨rfl,rfl⟩
  go_wp2_with fail
  refine((zu N_to) _ true (zu TK)).mono ?_
  rintro e u ⟨rfl,rfl⟩
  have EN:=zh (endedD (y:=⟨0,none,0,[]⟩) (base0:=w.heap.size+2) (zu WU).b (zu R2) ⟨rfl,.inl ⟨rfl,rfl⟩⟩ (by omega))
  have f0:=(zu R2).free 0
  have f1:=(zu R2).free 1
  have r0:=(zu R2).c0
  have r1:=(zu R2).c1
  clear c0 c1 lt
  go_wp2
  refine bodyPost_ret (v:= .tuple #[.agg #[.int .i64 0,.slice none 0 0],.int .i64 1]) (by simp[results,Tryz.results234,go_sem,r0,r1]) rfl ?_
  rw[zu E]
  exact⟨⟨0,none,0,[]⟩,rfl,rfl,(zu EN).1,(zu EN).2⟩
 have eb:(nm==to)=false:=by simpa using ne
 by_cases q:findF x.ps nm<0
 case pos=>
  have E:=zh (show moveD x.room x.ps nm to=((x.room,x.ps),2) by unfold moveD;rw[if_pos ⟨tk,ne⟩,at_none ok nk q];rfl)
  generalize moveD x.room x.ps nm to=rr at *
  have FN:=tl_no (zu TL) q
  have HP:=zh (show(tabOf x.ps nm).getD z0=(0,ByteArray.empty,ByteArray.empty) by rw[FN];rfl)
  have HI:=zh (show(tabOf x.ps nm).isSome=false by rw[FN];rfl)
  clear ok nk q FN tk ne
  go_enter Tryz.func234,Tryz.ntmps234
  go_wp2_with fail
  refine((zu OK0) true (zu OKD)).mono ?_
  rintro e u ⟨rfl,b1⟩
  have R2:=zh ((zu G0).2.below b1 (by omega))
  have WU:=zh ((zu G0).1.step b1)
  have us:=b1.size
  rw[s2] at us
  clear b1 G0 OK0 s2
  have c0:=(zu WU).c0
  have c1:=(zu WU).c1
  have lt:=(zu WU).lt
  go_wp2_with fail
  refine((zu N_nm) _ true (zu NK)).mono ?_
  rintro e u ⟨rfl,rfl⟩
  go_wp2_with fail
  refine((zu N_to) _ true (zu TK)).mono ?_
  rintro e u ⟨rfl,rfl⟩
  go_wp2_with fail
  refine(iTable _ x (zu WU).r (wf_names (zu OK))).mono ?_
  rintro e u1 ⟨rfl,tt,b2⟩
  have S1:=zh (show St w u1 x (u.heap.size+1) x.ps.length (tabOf x.ps) from⟨(zu WU).step b2,(zu R2).below b2 (zu R2).lt.2,tt,by omega,zu XA⟩)
  have us1:=b2.size
  clear tt b2 WU R2 c0 c1 lt
  have S2:=zh ((zu S1).step (one_more u1 (.cells #[.int .i64 0,.string ByteArray.empty,.string ByteArray.empty] 64)))
  have c0:=(zu S2).d.c0
  have c1:=(zu S2).d.c1
  have lt:=(zu S2).d.lt
  go_wp2_with (first|(at_lookup;refine wp_have _ rfl _ _ rfl (u.heap.size+1) _ _ rfl (zu S1).t nm rfl (zu WF) _ false (zu HP) (zu HI) ?_)|fail)
  refine(iCopied _ x (zu S2).d.r).mono ?_
  rintro e u9 ⟨y,hy0,hy,rfl,oy,b9⟩
  have R9:=zh ((zu S2).r.below b9 (zu S2).r.lt.2)
  have HY:=zh (show(y.room,y.ps)=(x.room,x.ps) by rw[hy0,hy])
  have sz9:=(zu S2).r.lt.2
  have EN:=zh (endedD ((zu S2).d.b.trans (b9.mono (zu S2).d.b.size)) (zu R9) oy (by omega))
  have f0:=(zu R9).free 0
  have f1:=(zu R9).free 1
  have r0:=(zu R9).c0
  have r1:=(zu R9).c1
  clear b9 oy hy0 hy c0 c1 lt
  go_wp2
  refine bodyPost_ret (v:= .tuple #[.agg #[.int .i64 y.room,.slice y.a y.ps.length y.c],.int .i64 2]) (by simp[results,Tryz.results234,go_sem,r0,r1]) rfl ?_
  rw[zu E]
  exact⟨y,zu HY,rfl,(zu EN).1,(zu EN).2⟩
 obtain⟨k,ek,kl,en⟩:=findF_in (ps:=x.ps) (nm:=nm) (by omega)
 have E:=zh (show moveD x.room x.ps nm to=((x.room,putF (lessN x.ps k x.ps.length) (to,(elF x.ps k).2.1,(elF x.ps k).2.2)),0) by unfold moveD;rw[if_pos ⟨tk,ne⟩,at_yes ok nk ek];rfl)
 generalize moveD x.room x.ps nm to=rr at *
 have ROW:=tl_less (zu TL) kl
 rw[en] at ROW
 have ROW:=zh (tl_row (tl_put ROW (to,(elF x.ps k).2.1,(elF x.ps k).2.2) (Pure14.ok_named.1 tk)))
 have FY:=tl_yes (zu TL) kl en
 have SZ:=zh (el_size hz kl)
 have HP:=zh (show(tabOf x.ps nm).getD z0=((elF x.ps k).1,(elF x.ps k).2.1,(elF x.ps k).2.2) by rw[FY];rfl)
 have HI:=zh (show(tabOf x.ps nm).isSome=true by rw[FY];rfl)
 clear ok nk q FY ek en TL tk ne
 generalize (elF x.ps k).1=p0 at *
 generalize (elF x.ps k).2.1=p1 at *
 generalize (elF x.ps k).2.2=p2 at *
 clear kl
 go_enter Tryz.func234,Tryz.ntmps234
 go_wp2_with fail
 refine((zu OK0) true (zu OKD)).mono ?_
 rintro e u ⟨rfl,b1⟩
 have R2:=zh ((zu G0).2.below b1 (by omega))
 have WU:=zh ((zu G0).1.step b1)
 have us:=b1.size
 rw[s2] at us
 clear b1 G0 OK0 s2
 have c0:=(zu WU).c0
 have c1:=(zu WU).c1
 have lt:=(zu WU).lt
 go_wp2_with fail
 refine((zu N_nm) _ true (zu NK)).mono ?_
 rintro e u ⟨rfl,rfl⟩
 go_wp2_with fail
 refine((zu N_to) _ true (zu TK)).mono ?_
 rintro e u ⟨rfl,rfl⟩
 go_wp2_with fail
 refine(iTable _ x (zu WU).r (wf_names (zu OK))).mono ?_
 rintro e u1 ⟨rfl,tt,b2⟩
 have S1:=zh (show St w u1 x (u.heap.size+1) x.ps.length (tabOf x.ps) from⟨(zu WU).step b2,(zu R2).below b2 (zu R2).lt.2,tt,by omega,zu XA⟩)
 have us1:=b2.size
 clear tt b2 WU R2 c0 c1 lt
 have S2:=zh ((zu S1).step (one_more u1 (.cells #[.int .i64 p0,.string p1,.string p2] 64)))
 have Q1:=zh (show(u1.alloc (.cells #[.int .i64 p0,.string p1,.string p2] 64)).cell? ⟨u1.heap.size,1,none⟩=some (.string p1) by simp[go_sem])
 have Q2:=zh (show(u1.alloc (.cells #[.int .i64 p0,.string p1,.string p2] 64)).cell? ⟨u1.heap.size,2,none⟩=some (.string p2) by simp[go_sem])
 have c0:=(zu S2).d.c0
 have c1:=(zu S2).d.c1
 have lt:=(zu S2).d.lt
 go_wp2_with (first|(at_lookup;refine wp_have _ rfl _ _ rfl (u.heap.size+1) _ _ rfl (zu S1).t nm rfl (zu WF) _ true (zu HP) (zu HI) ?_)|(at_delete;refine wp_del _ rfl _ _ rfl (u.heap.size+1) _ _ rfl (zu S2).t nm rfl (zu WF) ?_;intro u3 t3 g3;have S3:=zh ((zu S2).turn t3 g3);have bl:=(zu S1).t.lt;have q1:=(kcell (G:=u.heap.size+1) g3 1 (show u1.heap.size<(u1.alloc (.cells #[.int .i64 p0,.string p1,.string p2] 64)).heap.size by simp) (by omega)).trans (zu Q1);have q2:=(kcell (G:=u.heap.size+1) g3 2 (show u1.heap.size<(u1.alloc (.cells #[.int .i64 p0,.string p1,.string p2] 64)).heap.size by simp) (by omega)).trans (zu Q2);clear t3 g3 c0 c1 lt;have c0:=(zu S3).d.c0;have c1:=(zu S3).d.c1;have lt:=(zu S3).d.lt)|(at_mapUpdate;refine wp_put _ rfl _ _ _ rfl (u.heap.size+1) _ _ rfl (zu S3).t h20 to (to,p1,p2) rfl rfl (zu WT) ?_;intro u4 t4 g4;have S4:=zh ((zu S3).turn t4 g4);clear t4 g4 c0 c1 lt;have c0:=(zu S4).d.c0;have c1:=(zu S4).d.c1;have lt:=(zu S4).d.lt)|fail)
 refine(iDisk _ (u.heap.size+1) _ _ x.room (zu S4).t).mono ?_
 rintro e u9 ⟨y,hy0,hy,rfl,oy,b9⟩
 have R9:=zh ((zu S4).r.below b9 (zu S4).r.lt.2)
 have HY:=zh (show(y.room,y.ps)=(x.room,putF (lessN x.ps k x.ps.length) (to,p1,p2)) by rw[hy0,hy,zu ROW])
 have sz9:=(zu S4).r.lt.2
 have EN:=zh (endedD ((zu S4).d.b.trans (b9.mono (zu S4).d.b.size)) (zu R9) oy (by omega))
 have f0:=(zu R9).free 0
 have f1:=(zu R9).free 1
 have r0:=(zu R9).c0
 have r1:=(zu R9).c1
 clear b9 oy hy0 hy c0 c1 lt
 go_wp2
 refine bodyPost_ret (v:= .tuple #[.agg #[.int .i64 y.room,.slice y.a y.ps.length y.c],.int .i64 0]) (by simp[results,Tryz.results234,go_sem,r0,r1]) rfl ?_
 rw[zu E]
 exact⟨y,zu HY,rfl,(zu EN).1,(zu EN).2⟩
end IMove14
namespace IDrop14
open Fil14 OpensF14 DiskH14 DkH14 SDk14 SOk14 SRd14 App14 SLess14 SCopy14 SRef14 SCom14 SPut14 SDrop14 TabF14 PTab14 IFile14 ITb14 ICp14 IDk14 ICom14
theorem iDiskDrop(w:World)(x:Dx)(nm:Int)(hr:RdD w x)(hz:sumZ x.ps≤1048576):Calls Tryz.prog 231 #[.agg #[.int .i64 x.room,.slice x.a x.ps.length x.c],.int .i64 nm] w (ToldD (dropD x.room x.ps nm) w):=by
 have G0:=zh (begunD hr)
 have s2:((w.alloc (.cells #[.int .i64 x.room,.slice x.a x.ps.length x.c] 38)).alloc (.cells #[.int .i64 0,.slice none 0 0] 38)).heap.size=w.heap.size+2:=by simp
 have OK0:=zh (fun b h=>iOkB _ x b (zu G0).1.r hz h)
 have N_nm:=zh (fun u b h=>iNameB u nm b h)
 have XA:=zh (fun g e=>(hr.r g e).1)
 have h20:=hr.n
 clear hr
 by_cases ok:OkD x.room x.ps
 case neg=>
  have E:=zh (show dropD x.room x.ps nm=((0,[]),1) by unfold dropD;rw[at_bad (fun h=>ok h.1)];rfl)
  generalize dropD x.room x.ps nm=rr at *
  have OKD:=zh (decide_eq_false ok)
  clear ok
  go_enter Tryz.func231,Tryz.ntmps231
  go_wp2_with fail
  refine((zu OK0) false (zu OKD)).mono ?_
  rintro e u ⟨rfl,b1⟩
  have R2:=zh ((zu G0).2.below b1 (by omega))
  have WU:=zh ((zu G0).1.step b1)
  have us:=b1.size
  rw[s2] at us
  clear b1 G0 OK0 s2
  have c0:=(zu WU).c0
  have c1:=(zu WU).c1
  have lt:=(zu WU).lt
  have EN:=zh (endedD (y:=⟨0,none,0,[]⟩) (base0:=w.heap.size+2) (zu WU).b (zu R2) ⟨rfl,.inl ⟨rfl,rfl⟩⟩ (by omega))
  have f0:=(zu R2).free 0
  have f1:=(zu R2).free 1
  have r0:=(zu R2).c0
  have r1:=(zu R2).c1
  clear c0 c1 lt
  go_wp2
  refine bodyPost_ret (v:= .tuple #[.agg #[.int .i64 0,.slice none 0 0],.int .i64 1]) (by simp[results,Tryz.results231,go_sem,r0,r1]) rfl ?_
  rw[zu E]
  exact⟨⟨0,none,0,[]⟩,rfl,rfl,(zu EN).1,(zu EN).2⟩
 have OKD:=zh (decide_eq_true ok)
 have OK:=zh ok
 by_cases nk:okN nm=true
 case neg=>
  have E:=zh (show dropD x.room x.ps nm=((0,[]),1) by unfold dropD;rw[at_bad (fun h=>nk h.2)];rfl)
  generalize dropD x.room x.ps nm=rr at *
  have NK:=zh (show okN nm=false by simpa using nk)
  clear ok nk
  go_enter Tryz.func231,Tryz.ntmps231
  go_wp2_with fail
  refine((zu OK0) true (zu OKD)).mono ?_
  rintro e u ⟨rfl,b1⟩
  have R2:=zh ((zu G0).2.below b1 (by omega))
  have WU:=zh ((zu G0).1.step b1)
  have us:=b1.size
  rw[s2] at us
  clear b1 G0 OK0 s2
  have c0:=(zu WU).c0
  have c1:=(zu WU).c1
  have lt:=(zu WU).lt
  go_wp2_with fail
  refine((zu N_nm) _ false (zu NK)).mono ?_
  rintro e u ⟨rfl,rfl⟩
  have EN:=zh (endedD (y:=⟨0,none,0,[]⟩) (base0:=w.heap.size+2) (zu WU).b (zu R2) ⟨rfl,.inl ⟨rfl,rfl⟩⟩ (by omega))
  have f0:=(zu R2).free 0
  have f1:=(zu R2).free 1
  have r0:=(zu R2).c0
  have r1:=(zu R2).c1
  clear c0 c1 lt
  go_wp2
  refine bodyPost_ret (v:= .tuple #[.agg #[.int .i64 0,.slice none 0 0],.int .i64 1]) (by simp[results,Tryz.results231,go_sem,r0,r1]) rfl ?_
  rw[zu E]
  exact⟨⟨0,none,0,[]⟩,rfl,rfl,(zu EN).1,(zu EN).2⟩
 have NK:=zh nk
 have WF:=zh (wf_ok nk)
 have TL:=zh (tl_ok ok)
 by_cases q:findF x.ps nm<0
 case pos=>
  have E:=zh (show dropD x.room x.ps nm=((x.room,x.ps),2) by unfold dropD;rw[at_none ok nk q];rfl)
  generalize dropD x.room x.ps nm=rr at *
  have FN:=tl_no (zu TL) q
  have HP:=zh (show(tabOf x.ps nm).getD z0=(0,ByteArray.empty,ByteArray.empty) by rw[FN];rfl)
  have HI:=zh (show(tabOf x.ps nm).isSome=false by rw[FN];rfl)
  clear ok nk q FN
  go_enter Tryz.func231,Tryz.ntmps231
  go_wp2_with fail
  refine((zu OK0) true (zu OKD)).mono ?_
  rintro e u ⟨rfl,b1⟩
  have R2:=zh ((zu G0).2.below b1 (by omega))
  have WU:=zh ((zu G0).1.step b1)
  have us:=b1.size
  rw[s2] at us
  clear b1 G0 OK0 s2
  have c0:=(zu WU).c0
  have c1:=(zu WU).c1
  have lt:=(zu WU).lt
  go_wp2_with fail
  refine((zu N_nm) _ true (zu NK)).mono ?_
  rintro e u ⟨rfl,rfl⟩
  go_wp2_with fail
  refine(iTable _ x (zu WU).r (wf_names (zu OK))).mono ?_
  rintro e u1 ⟨rfl,tt,b2⟩
  have S1:=zh (show St w u1 x (u.heap.size+1) x.ps.length (tabOf x.ps) from⟨(zu WU).step b2,(zu R2).below b2 (zu R2).lt.2,tt,by omega,zu XA⟩)
  have us1:=b2.size
  clear tt b2 WU R2 c0 c1 lt
  have S2:=zh ((zu S1).step (one_more u1 (.cells #[.int .i64 0,.string ByteArray.empty,.string ByteArray.empty] 64)))
  have c0:=(zu S2).d.c0
  have c1:=(zu S2).d.c1
  have lt:=(zu S2).d.lt
  go_wp2_with (first|(at_lookup;refine wp_have _ rfl _ _ rfl (u.heap.size+1) _ _ rfl (zu S1).t nm rfl (zu WF) _ false (zu HP) (zu HI) ?_)|fail)
  refine(iCopied _ x (zu S2).d.r).mono ?_
  rintro e u9 ⟨y,hy0,hy,rfl,oy,b9⟩
  have R9:=zh ((zu S2).r.below b9 (zu S2).r.lt.2)
  have HY:=zh (show(y.room,y.ps)=(x.room,x.ps) by rw[hy0,hy])
  have sz9:=(zu S2).r.lt.2
  have EN:=zh (endedD ((zu S2).d.b.trans (b9.mono (zu S2).d.b.size)) (zu R9) oy (by omega))
  have f0:=(zu R9).free 0
  have f1:=(zu R9).free 1
  have r0:=(zu R9).c0
  have r1:=(zu R9).c1
  clear b9 oy hy0 hy c0 c1 lt
  go_wp2
  refine bodyPost_ret (v:= .tuple #[.agg #[.int .i64 y.room,.slice y.a y.ps.length y.c],.int .i64 2]) (by simp[results,Tryz.results231,go_sem,r0,r1]) rfl ?_
  rw[zu E]
  exact⟨y,zu HY,rfl,(zu EN).1,(zu EN).2⟩
 obtain⟨k,ek,kl,en⟩:=findF_in (ps:=x.ps) (nm:=nm) (by omega)
 have E:=zh (show dropD x.room x.ps nm=((x.room,lessN x.ps k x.ps.length),0) by unfold dropD;rw[at_yes ok nk ek];rfl)
 generalize dropD x.room x.ps nm=rr at *
 have ROW:=tl_row (tl_less (zu TL) kl)
 rw[en] at ROW
 have ROW:=zh ROW
 have FY:=tl_yes (zu TL) kl en
 have SZ:=zh (el_size hz kl)
 have HP:=zh (show(tabOf x.ps nm).getD z0=((elF x.ps k).1,(elF x.ps k).2.1,(elF x.ps k).2.2) by rw[FY];rfl)
 have HI:=zh (show(tabOf x.ps nm).isSome=true by rw[FY];rfl)
 clear ok nk q FY ek en TL
 generalize (elF x.ps k).1=p0 at *
 generalize (elF x.ps k).2.1=p1 at *
 generalize (elF x.ps k).2.2=p2 at *
 clear kl
 go_enter Tryz.func231,Tryz.ntmps231
 go_wp2_with fail
 refine((zu OK0) true (zu OKD)).mono ?_
 rintro e u ⟨rfl,b1⟩
 have R2:=zh ((zu G0).2.below b1 (by omega))
 have WU:=zh ((zu G0).1.step b1)
 have us:=b1.size
 rw[s2] at us
 clear b1 G0 OK0 s2
 have c0:=(zu WU).c0
 have c1:=(zu WU).c1
 have lt:=(zu WU).lt
 go_wp2_with fail
 refine((zu N_nm) _ true (zu NK)).mono ?_
 rintro e u ⟨rfl,rfl⟩
 go_wp2_with fail
 refine(iTable _ x (zu WU).r (wf_names (zu OK))).mono ?_
 rintro e u1 ⟨rfl,tt,b2⟩
 have S1:=zh (show St w u1 x (u.heap.size+1) x.ps.length (tabOf x.ps) from⟨(zu WU).step b2,(zu R2).below b2 (zu R2).lt.2,tt,by omega,zu XA⟩)
 have us1:=b2.size
 clear tt b2 WU R2 c0 c1 lt
 have S2:=zh ((zu S1).step (one_more u1 (.cells #[.int .i64 p0,.string p1,.string p2] 64)))
 have c0:=(zu S2).d.c0
 have c1:=(zu S2).d.c1
 have lt:=(zu S2).d.lt
 go_wp2_with (first|(at_lookup;refine wp_have _ rfl _ _ rfl (u.heap.size+1) _ _ rfl (zu S1).t nm rfl (zu WF) _ true (zu HP) (zu HI) ?_)|(at_delete;refine wp_del _ rfl _ _ rfl (u.heap.size+1) _ _ rfl (zu S2).t nm rfl (zu WF) ?_;intro u3 t3 g3;have S3:=zh ((zu S2).turn t3 g3);clear t3 g3 c0 c1 lt;have c0:=(zu S3).d.c0;have c1:=(zu S3).d.c1;have lt:=(zu S3).d.lt)|fail)
 refine(iDisk _ (u.heap.size+1) _ _ x.room (zu S3).t).mono ?_
 rintro e u9 ⟨y,hy0,hy,rfl,oy,b9⟩
 have R9:=zh ((zu S3).r.below b9 (zu S3).r.lt.2)
 have HY:=zh (show(y.room,y.ps)=(x.room,lessN x.ps k x.ps.length) by rw[hy0,hy,zu ROW])
 have sz9:=(zu S3).r.lt.2
 have EN:=zh (endedD ((zu S3).d.b.trans (b9.mono (zu S3).d.b.size)) (zu R9) oy (by omega))
 have f0:=(zu R9).free 0
 have f1:=(zu R9).free 1
 have r0:=(zu R9).c0
 have r1:=(zu R9).c1
 clear b9 oy hy0 hy c0 c1 lt
 go_wp2
 refine bodyPost_ret (v:= .tuple #[.agg #[.int .i64 y.room,.slice y.a y.ps.length y.c],.int .i64 0]) (by simp[results,Tryz.results231,go_sem,r0,r1]) rfl ?_
 rw[zu E]
 exact⟨y,zu HY,rfl,(zu EN).1,(zu EN).2⟩
end IDrop14
end Go.Proofs.YtlbgfdpcgpijhaaGreat
