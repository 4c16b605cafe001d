/- Lemmas. -/
import Derived.Test.YtppkkmaoaiopaaaGreatQF28
import Derived.Test.YtppkkmaoaiopaaaGreatQF33
open Go.ChangeShapes Go.WideShapes Go.ChangeAt Go.RowKit
set_option linter.unusedVariables false
set_option linter.unusedSimpArgs false
set_option maxRecDepth 100000
set_option maxHeartbeats 32000000
namespace Go.Proofs.YtppkkmaoaiopaaaGreat
namespace IDeed17
open Fil14 OpensF14 DiskH14 DkH14 SDk14 SOk14 SCom14 EBx17 EFin17 SEngOk17 LawW16 CrE17 Mc17 ITurn17 VB13
open BMem (Bx Rd Ow)
open Bks (Bk Ok)
open BHelp (Ix)
open Lots (Says)
open SegP15 (okS)
open SSave16 (saveD)
open SCrash14 (crashD)
open Bx16 (Bx7 grow_grow grow_low)
open IDo17 (reg_sure)
theorem iBehind(w:World)(n:Int)(h:0≤n∧n≤19):Calls Tryz.prog 112 #[.int .i64 n] w fun e w'=>e= .returned (.int .i64 ((n+1)%20))∧w'=w:=by
 have a1:wrap64 (n+1)=n+1:=by rw[wrap64];omega
 have E:wrap64 ((n+1).tmod 20)=(n+1)%20:=by rw[Int.tmod_eq_emod_of_nonneg (by omega),wrap64];omega
 go_enter Tryz.func112,Tryz.ntmps112
 go_wp2
 go_ret
 exact⟨by first|rfl|(congr 2;first|exact E|(rw[Int.tmod_eq_emod_of_nonneg (by omega)])),rfl⟩
theorem Bx7.all{w:World}{base g:Nat}{v0 v1 v2 v3 v4 v5 v6:Value}(h:Bx7 w base g v0 v1 v2 v3 v4 v5 v6)(u0 u1 u2 u3 u4 u5 u6:Value):Bx7 (((((((w.setCell ⟨g,0,none⟩ u0).setCell ⟨g,1,none⟩ u1).setCell ⟨g,2,none⟩ u2).setCell ⟨g,3,none⟩ u3).setCell ⟨g,4,none⟩ u4).setCell ⟨g,5,none⟩ u5).setCell ⟨g,6,none⟩ u6) base g u0 u1 u2 u3 u4 u5 u6∧w.grownBy (((((((w.setCell ⟨g,0,none⟩ u0).setCell ⟨g,1,none⟩ u1).setCell ⟨g,2,none⟩ u2).setCell ⟨g,3,none⟩ u3).setCell ⟨g,4,none⟩ u4).setCell ⟨g,5,none⟩ u5).setCell ⟨g,6,none⟩ u6) (some g):=by
 have t0:=h.set0 u0
 have t1:=t0.1.set1 u1
 have t2:=t1.1.set2 u2
 have t3:=t2.1.set3 u3
 have t4:=t3.1.set4 u4
 have t5:=t4.1.set5 u5
 have t6:=t5.1.set6 u6
 exact⟨t6.1,grow_grow (grow_grow (grow_grow (grow_grow (grow_grow (grow_grow t0.2 t1.2) t2.2) t3.2) t4.2) t5.2) t6.2⟩
theorem Mc.take{u u' u1:World}{base g b1:Nat}{l sg ct:Int}{up:Bool}{x y:Dx}{z:Bx}(h:Mc u base g l up x (ixB z) sg ct)(o:OwD u1 b1 y)(hg:g<b1)(n:y.ps.length≤1048576)(k0:u.grownBy u1 (some g))(k:u1.grownBy u' (some g)){l2 sg2 ct2:Int}{up2:Bool}(b:Bx13 u' base g (.int .i32 l2) (.int .u32 0) (.int .i64 y.room) (.slice y.a y.ps.length y.c) (.bool up2) (.slice (some ⟨z.ga,0,none⟩) z.b.ac.length z.ca) (.slice (some ⟨z.gi,0,none⟩) z.b.ic.length z.ci) (.slice (some ⟨z.gb,0,none⟩) z.b.bs.length z.cb) (.slice (some ⟨z.gl,0,none⟩) z.b.ls.length z.cl) (.slice (some ⟨z.gt,0,none⟩) z.b.ts.length z.ct) (.int .i64 z.b.lot) (.int .i64 sg2) (.int .i64 ct2)):Mc u' base g l2 up2 y (ixB z) sg2 ct2:=
 ⟨b,fun V q=>⟨OwD.rd (x:=y) (show OwD V b1 y from row_kept2 o (grow_grow k q) hg) n,(h.st V (grow_grow k0 (grow_grow k q))).2⟩⟩
theorem iSave(u:World)(base g:Nat)(up:Bool)(x:Dx)(z:Bx)(sg ct:Int)(hs:0≤sg∧sg≤19)(m:Mc u base g 1 up x (ixB z) sg ct):
  Calls Tryz.prog 60 #[.pointer (some ⟨g,0,none⟩)] u fun e u'=>e= .returned (.agg #[.int .i64 ((sg+1)%20),.slice (some ⟨z.ga,0,none⟩) z.b.ac.length z.ca,.slice (some ⟨z.gi,0,none⟩) z.b.ic.length z.ci,.slice (some ⟨z.gb,0,none⟩) z.b.bs.length z.cb,.slice (some ⟨z.gl,0,none⟩) z.b.ls.length z.cl,.slice (some ⟨z.gt,0,none⟩) z.b.ts.length z.ct,.int .i64 z.b.lot])∧Below u.heap.size u u':=by
 have HM:=zh (m.step (one_more u (.cells #[.int .i64 0,.slice none 0 0,.slice none 0 0,.slice none 0 0,.slice none 0 0,.slice none 0 0,.int .i64 0] 59)))
 have KB:=zh (Bx7.made (w:=u) (base:=u.heap.size) (g:=u.heap.size) (.int .i64 0) (.slice none 0 0) (.slice none 0 0) (.slice none 0 0) (.slice none 0 0) (.slice none 0 0) (.int .i64 0) (Nat.le_refl _) rfl)
 have BB:=zh (one_more u (.cells #[.int .i64 0,.slice none 0 0,.slice none 0 0,.slice none 0 0,.slice none 0 0,.slice none 0 0,.int .i64 0] 59))
 have LG:=zh (show g<u.heap.size from m.k.lt.2)
 clear m
 go_enter Tryz.func60,Tryz.ntmps60
 go_wp2_with fail
 generalize (u.alloc (.cells #[.int .i64 0,.slice none 0 0,.slice none 0 0,.slice none 0 0,.slice none 0 0,.slice none 0 0,.int .i64 0] 59))=W at *
 refine wp_region_held_drew (S:=(fun w'=>w'.cell? ⟨g,5,none⟩=some (.slice (some ⟨z.ga,0,none⟩) z.b.ac.length z.ca)∧w'.cell? ⟨g,6,none⟩=some (.slice (some ⟨z.gi,0,none⟩) z.b.ic.length z.ci)∧w'.cell? ⟨g,7,none⟩=some (.slice (some ⟨z.gb,0,none⟩) z.b.bs.length z.cb)∧w'.cell? ⟨g,8,none⟩=some (.slice (some ⟨z.gl,0,none⟩) z.b.ls.length z.cl)∧w'.cell? ⟨g,9,none⟩=some (.slice (some ⟨z.gt,0,none⟩) z.b.ts.length z.ct)∧w'.cell? ⟨g,10,none⟩=some (.int .i64 z.b.lot)∧w'.cell? ⟨g,11,none⟩=some (.int .i64 sg))) (by kernel_rfl) ⟨(zu HM).k.c5,(zu HM).k.c6,(zu HM).k.c7,(zu HM).k.c8,(zu HM).k.c9,(zu HM).k.c10,(zu HM).k.c11⟩ (fun hHeld=>?_)
 refine zT 0 3 (.pointer (some ⟨g,0,none⟩)) rfl hHeld ?_
 refine zT 1 4 (.pointer (some ⟨g,0,none⟩)) rfl hHeld ?_
 refine zT 2 5 (.pointer (some ⟨g,11,none⟩)) rfl hHeld ?_
 refine zT 3 6 (.int .i64 sg) rfl hHeld ?_
 refine zT 5 8 (.pointer (some ⟨g,0,none⟩)) rfl hHeld ?_
 refine zT 6 9 (.pointer (some ⟨g,0,none⟩)) rfl hHeld ?_
 refine zT 7 10 (.pointer (some ⟨g,5,none⟩)) rfl hHeld ?_
 refine zT 8 11 (.agg #[.slice (some ⟨z.ga,0,none⟩) z.b.ac.length z.ca,.slice (some ⟨z.gi,0,none⟩) z.b.ic.length z.ci,.slice (some ⟨z.gb,0,none⟩) z.b.bs.length z.cb,.slice (some ⟨z.gl,0,none⟩) z.b.ls.length z.cl,.slice (some ⟨z.gt,0,none⟩) z.b.ts.length z.ct,.int .i64 z.b.lot]) rfl hHeld ?_
 try simp only[Act.put,zA,zB,zC]
 refine zR 4 rfl (fun K hK=>?_)
 go_simp
 go_wp2_with fail
 refine(iBehind _ sg hs).mono ?_
 rintro e v1 ⟨rfl,hq⟩
 have b7:Below W.heap.size W v1:=by subst hq;exact(Below.refl _ _).drew
 have MN:=zh ((zu HM).step b7)
 have KD:=zh ((zu KB).below b7 (zu KB).lt.2)
 have BD:=zh ((zu BB).trans (b7.mono (zu BB).size))
 clear hq b7
 go_wp2_with fail
 refine hK.out _ _ ⟨(zu MN).k.c5,(zu MN).k.c6,(zu MN).k.c7,(zu MN).k.c8,(zu MN).k.c9,(zu MN).k.c10,(zu MN).k.c11⟩ (fun hHeld=>?_)
 clear hK K
 refine zT 9 12 (.agg #[.int .i64 ((sg+1)%20),.slice (some ⟨z.ga,0,none⟩) z.b.ac.length z.ca,.slice (some ⟨z.gi,0,none⟩) z.b.ic.length z.ci,.slice (some ⟨z.gb,0,none⟩) z.b.bs.length z.cb,.slice (some ⟨z.gl,0,none⟩) z.b.ls.length z.cl,.slice (some ⟨z.gt,0,none⟩) z.b.ts.length z.ct,.int .i64 z.b.lot]) rfl hHeld ?_
 try simp only[Act.put,zA,zB,zC]
 have s7:=Bx7.all (zu KD) (.int .i64 ((sg+1)%20)) (.slice (some ⟨z.ga,0,none⟩) z.b.ac.length z.ca) (.slice (some ⟨z.gi,0,none⟩) z.b.ic.length z.ci) (.slice (some ⟨z.gb,0,none⟩) z.b.bs.length z.cb) (.slice (some ⟨z.gl,0,none⟩) z.b.ls.length z.cl) (.slice (some ⟨z.gt,0,none⟩) z.b.ts.length z.ct) (.int .i64 z.b.lot)
 have KN:=zh s7.1
 have kc:∀o,((((((((v1).setCell ⟨u.heap.size,0,none⟩ (.int .i64 ((sg+1)%20))).setCell ⟨u.heap.size,1,none⟩ (.slice (some ⟨z.ga,0,none⟩) z.b.ac.length z.ca)).setCell ⟨u.heap.size,2,none⟩ (.slice (some ⟨z.gi,0,none⟩) z.b.ic.length z.ci)).setCell ⟨u.heap.size,3,none⟩ (.slice (some ⟨z.gb,0,none⟩) z.b.bs.length z.cb)).setCell ⟨u.heap.size,4,none⟩ (.slice (some ⟨z.gl,0,none⟩) z.b.ls.length z.cl)).setCell ⟨u.heap.size,5,none⟩ (.slice (some ⟨z.gt,0,none⟩) z.b.ts.length z.ct)).setCell ⟨u.heap.size,6,none⟩ (.int .i64 z.b.lot)).cell? ⟨g,o,none⟩=v1.cell? ⟨g,o,none⟩:=fun o=>App14.kcell s7.2 o (zu MN).k.lt.2 (by have:=zu LG;omega)
 have BN:=zh (grow_low (B:=u.heap.size) (zu BD) s7.2 ⟨Nat.le_refl _,(zu BD).size⟩)
 clear s7
 have f0:=(zu KD).free 0
 have b0:=(zu KD).c0
 have f1:=(zu KD).free 1
 have b1:=(zu KD).c1
 have f2:=(zu KD).free 2
 have b2:=(zu KD).c2
 have f3:=(zu KD).free 3
 have b3:=(zu KD).c3
 have f4:=(zu KD).free 4
 have b4:=(zu KD).c4
 have f5:=(zu KD).free 5
 have b5:=(zu KD).c5
 have f6:=(zu KD).free 6
 have b6:=(zu KD).c6
 refine zR 10 rfl (fun K hK=>?_)
 go_simp
 refine hK.out _ _ ⟨(kc 5).trans (zu MN).k.c5,(kc 6).trans (zu MN).k.c6,(kc 7).trans (zu MN).k.c7,(kc 8).trans (zu MN).k.c8,(kc 9).trans (zu MN).k.c9,(kc 10).trans (zu MN).k.c10,(kc 11).trans (zu MN).k.c11⟩ (fun hHeld=>?_)
 clear hK K
 try simp only[Act.put,zA,zB,zC]
 clear f0 b0 f1 b1 f2 b2 f3 b3 f4 b4 f5 b5 f6 b6
 generalize (((((((v1).setCell ⟨u.heap.size,0,none⟩ (.int .i64 ((sg+1)%20))).setCell ⟨u.heap.size,1,none⟩ (.slice (some ⟨z.ga,0,none⟩) z.b.ac.length z.ca)).setCell ⟨u.heap.size,2,none⟩ (.slice (some ⟨z.gi,0,none⟩) z.b.ic.length z.ci)).setCell ⟨u.heap.size,3,none⟩ (.slice (some ⟨z.gb,0,none⟩) z.b.bs.length z.cb)).setCell ⟨u.heap.size,4,none⟩ (.slice (some ⟨z.gl,0,none⟩) z.b.ls.length z.cl)).setCell ⟨u.heap.size,5,none⟩ (.slice (some ⟨z.gt,0,none⟩) z.b.ts.length z.ct)).setCell ⟨u.heap.size,6,none⟩ (.int .i64 z.b.lot)=U at *
 refine wpAnyH_done (by kernel_rfl) ?_ _
 go_wp2
 have q0:=(zu KN).c0
 have q1:=(zu KN).c1
 have q2:=(zu KN).c2
 have q3:=(zu KN).c3
 have q4:=(zu KN).c4
 have q5:=(zu KN).c5
 have q6:=(zu KN).c6
 refine bodyPost_ret (v:= .agg #[.int .i64 ((sg+1)%20),.slice (some ⟨z.ga,0,none⟩) z.b.ac.length z.ca,.slice (some ⟨z.gi,0,none⟩) z.b.ic.length z.ci,.slice (some ⟨z.gb,0,none⟩) z.b.bs.length z.cb,.slice (some ⟨z.gl,0,none⟩) z.b.ls.length z.cl,.slice (some ⟨z.gt,0,none⟩) z.b.ts.length z.ct,.int .i64 z.b.lot]) (by simp[results,Tryz.results60,go_sem,q0,q1,q2,q3,q4,q5,q6]) rfl ⟨rfl,zu BN⟩
theorem iBecomeNo(u:World)(g:Nat)(y:Dx)(code:Int)(hc:code≠0):Calls Tryz.prog 61 #[.pointer (some ⟨g,2,none⟩),.agg #[.int .i64 y.room,.slice y.a y.ps.length y.c],.int .i64 code] u fun e u'=>e= .returned (.bool false)∧Below u.heap.size u u':=by
 have ab:(code !=0)=true:=by simpa using hc
 have B:=zh (one_more u (.cells #[.int .i64 y.room,.slice y.a y.ps.length y.c] 37))
 clear hc
 go_enter Tryz.func61,Tryz.ntmps61
 go_wp2
 go_ret
 exact⟨rfl,zu B⟩
theorem iBecomeYes(u:World)(base g:Nat)(v0 v1 v2 v3 v4 v5 v6 v7 v8 v9 v10 v11 v12:Value)(y:Dx)(h:Bx13 u base g v0 v1 v2 v3 v4 v5 v6 v7 v8 v9 v10 v11 v12):Calls Tryz.prog 61 #[.pointer (some ⟨g,2,none⟩),.agg #[.int .i64 y.room,.slice y.a y.ps.length y.c],.int .i64 0] u fun e u'=>e= .returned (.bool true)∧Bx13 u' base g v0 v1 (.int .i64 y.room) (.slice y.a y.ps.length y.c) v4 v5 v6 v7 v8 v9 v10 v11 v12∧u.grownBy u' (some g):=by
 have b0:=one_more u (.cells #[.int .i64 y.room,.slice y.a y.ps.length y.c] 37)
 have h0:=h.below b0 h.lt.2
 have s2:=h0.set2 (.int .i64 y.room)
 have s3:=s2.1.set3 (.slice y.a y.ps.length y.c)
 have F:=zh (And.intro s3.1 (grow_grow (grow_grow (below_grow b0) s2.2) s3.2))
 have d0:(u.alloc (.cells #[.int .i64 y.room,.slice y.a y.ps.length y.c] 37)).cell? ⟨u.heap.size,0,none⟩=some (.int .i64 y.room):=by simp
 have d1:(u.alloc (.cells #[.int .i64 y.room,.slice y.a y.ps.length y.c] 37)).cell? ⟨u.heap.size,1,none⟩=some (.slice y.a y.ps.length y.c):=by simp
 have f2:=h0.free 2
 have f3:=h0.free 3
 have b2:=h0.c2
 have b3:=h0.c3
 clear b0 h0 s2 s3 h
 go_enter Tryz.func61,Tryz.ntmps61
 go_wp2
 go_ret
 exact⟨rfl,(zu F).1,(zu F).2⟩
theorem iCrash(u:World)(base g:Nat)(up:Bool)(x:Dx)(z:Bx)(sg ct keep:Int)(hz:sumZ x.ps≤1048576)(m:Mc u base g 1 up x (ixB z) sg ct):
  Calls Tryz.prog 22 #[.pointer (some ⟨g,0,none⟩),.int .i64 keep] u (DeedTo ((false,crashD x.room x.ps keep,⟨[],[],[],[],[],0⟩,0,0),0) u base g):=by
 have HM:=zh m
 have LC:=zh (show(crashD x.room x.ps keep).2.length≤1048576 from len_crash m.rx.n)
 have LG:=zh (show g<u.heap.size from m.k.lt.2)
 clear m
 have c2:=(zu HM).k.c2
 have c3:=(zu HM).k.c3
 go_enter Tryz.func22,Tryz.ntmps22
 go_wp2_with fail
 refine(ICrash14.iDiskCrash _ x keep (zu HM).rx hz).mono ?_
 rintro e u1 ⟨y,hy,rfl,oy,b1⟩
 have K1:=zh ((zu HM).k.below b1 (zu LG))
 have G1:=zh (below_grow (row:=some g) b1)
 have YE:=zh hy
 have LY:=zh (show y.ps.length≤1048576 from by have:=congrArg Prod.snd hy;simp only at this;rw[this];exact zu LC)
 have OY:=zh (show OwD u1 u.heap.size y from oy)
 clear c2 c3 hy oy b1 HM LC
 have s2:=(zu K1).set2 (.int .i64 y.room)
 have s3:=s2.1.set3 (.slice y.a y.ps.length y.c)
 have K2:=zh s3.1
 have G2:=zh (grow_grow (zu G1) (grow_grow s2.2 s3.2))
 have O2:=zh (show OwD _ u.heap.size y from row_kept2 (zu OY) (grow_grow s2.2 s3.2) (zu LG))
 have f2:=(zu K1).free 2
 have f3:=(zu K1).free 3
 have b2:=(zu K1).c2
 have b3:=(zu K1).c3
 clear s2 s3
 go_wp2_with fail
 clear f2 f3 b2 b3
 generalize (u1.setCell ⟨g,2,none⟩ (.int .i64 y.room)).setCell ⟨g,3,none⟩ (.slice y.a y.ps.length y.c)=U at *
 refine(IEngOk17.iNew _).mono ?_
 rintro e u2 ⟨rfl,b2⟩
 have K3:=zh ((zu K2).below b2 (zu K2).lt.2)
 have G3:=zh (grow_below (zu G2) b2)
 have O3:=zh ((zu O2).step b2)
 clear K1 G1 OY K2 G2 O2 b2
 have s4:=(zu K3).set4 (.bool false)
 have s5:=s4.1.set5 (.slice none 0 0)
 have s6:=s5.1.set6 (.slice none 0 0)
 have s7:=s6.1.set7 (.slice none 0 0)
 have s8:=s7.1.set8 (.slice none 0 0)
 have s9:=s8.1.set9 (.slice none 0 0)
 have s10:=s9.1.set10 (.int .i64 0)
 have s11:=s10.1.set11 (.int .i64 0)
 have s12:=s11.1.set12 (.int .i64 0)
 have gs:=(grow_grow (grow_grow (grow_grow (grow_grow (grow_grow (grow_grow (grow_grow (grow_grow s4.2 s5.2) s6.2) s7.2) s8.2) s9.2) s10.2) s11.2) s12.2)
 have K4:=zh s12.1
 have G4:=zh (grow_grow (zu G3) gs)
 have O4:=zh (show OwD _ u.heap.size y from row_kept2 (zu O3) gs (zu LG))
 clear gs s4 s5 s6 s7 s8 s9 s10 s11 s12
 have f4:=(zu K3).free 4
 have b4:=(zu K3).c4
 have f5:=(zu K3).free 5
 have b5:=(zu K3).c5
 have f6:=(zu K3).free 6
 have b6:=(zu K3).c6
 have f7:=(zu K3).free 7
 have b7:=(zu K3).c7
 have f8:=(zu K3).free 8
 have b8:=(zu K3).c8
 have f9:=(zu K3).free 9
 have b9:=(zu K3).c9
 have f10:=(zu K3).free 10
 have b10:=(zu K3).c10
 have f11:=(zu K3).free 11
 have b11:=(zu K3).c11
 have f12:=(zu K3).free 12
 have b12:=(zu K3).c12
 go_wp2
 go_ret
 exact⟨y,noI,zu YE,rfl,rfl,⟨zu K4,fun V q=>⟨OwD.rd (x:=y) (show OwD V u.heap.size y from row_kept2 (zu O4) q (zu LG)) (zu LY),.inr rfl⟩⟩,zu G4⟩
end IDeed17
namespace IDts17
open Fil14 OpensF14 DiskH14 DkH14 SDk14 SOk14 SCom14 EBx17 EFin17 SEngOk17 LawW16 CrE17 Mc17 ITurn17 IDeed17 PTorn17 VB13
open BMem (Bx Rd Ow)
open Bks (Bk Ok)
open BHelp (Ix)
open Lots (Says)
open SegP15 (okS)
open SSave16 (saveD)
open SStep16 (stepD)
open SCrash14 (crashD)
open Bx16 (Bx7 grow_grow grow_low)
open IDo17 (reg_sure)
theorem iSaveSteps(u:World)(base g:Nat)(x:Dx)(z:Bx)(sg ct steps:Int)(vb:Bool)(hs:0≤sg∧sg≤19)(hz:sumZ x.ps≤1048576)(hb:Says vb (Ok z.b))(lg:g<u.heap.size)(m:Mc u base g 1 true x (ixB z) sg ct):
  Calls Tryz.prog 21 #[.pointer (some ⟨g,0,none⟩),.int .i64 steps] u fun e u'=>∃d:Dx,(d.room,d.ps)=tornD x.room x.ps (saveD ((sg+1)%20) z.b vb) steps∧sumZ d.ps≤1048576∧e= .returned (.tuple #[])∧Mc u' base g 1 true d (ixB z) sg ct∧u.grownBy u' (some g):=by
 have HM:=zh m
 have SS:=zh (fun u (c:Dx) (k:Int) (h:RdD u c) (hz:sumZ c.ps≤1048576) (k2:Rd u z)=>ISaveStep16.iSaveStep u c z ((sg+1)%20) k vb h hz k2 hb)
 generalize saveD ((sg+1)%20) z.b vb=tx at *
 clear m hb
 by_cases q:0≤steps∧steps≤4
 case neg=>
  rw[show tornD x.room x.ps tx steps=(x.room,x.ps) from if_neg q]
  by_cases q0:steps<0
  ·clear q
   go_enter Tryz.func21,Tryz.ntmps21
   go_wp2
   try simp only[Exit.inBlock,Exit.then]
   first|refine bodyPost_ret (results_none rfl _ _ _) rfl ?_|go_end0
   exact⟨x,by simp,hz,rfl,zu HM,grow_refl _ _⟩
  ·have q1:4<steps:=by omega
   clear q
   go_enter Tryz.func21,Tryz.ntmps21
   go_wp2
   try simp only[Exit.inBlock,Exit.then]
   first|refine bodyPost_ret (results_none rfl _ _ _) rfl ?_|go_end0
   exact⟨x,by simp,hz,rfl,zu HM,grow_refl _ _⟩
 obtain⟨tot,htot⟩:∃tot,tornF tx steps.toNat 0 (x.room,x.ps)=tot:=⟨_,rfl⟩
 rw[show tornD x.room x.ps tx steps=tornF tx steps.toNat 0 (x.room,x.ps) from if_pos q,htot]
 have HT:=zh (show tornF tx (steps.toNat-0) ((0:Nat):Int) (x.room,x.ps)=tot from htot)
 obtain⟨N,hN⟩:∃N:Nat,(N:Int)=steps:=⟨steps.toNat,by omega⟩
 have en:steps.toNat=N:=by omega
 rw[en] at HT
 have q0:¬steps<0:=by omega
 have q1:¬4<steps:=by omega
 have N4:N≤4:=by omega
 clear htot en q
 subst hN
 go_enter Tryz.func21,Tryz.ntmps21
 go_wp2_with fail
 refine(iSave _ base g true x z sg ct hs (zu HM)).mono ?_
 rintro e u1 ⟨rfl,b1⟩
 have M1:=zh ((zu HM).step b1)
 have KB0:=zh (Bx7.made (w:=u1) (base:=u.heap.size) (g:=u1.heap.size) (.int .i64 ((sg+1)%20)) (.slice (some ⟨z.ga,0,none⟩) z.b.ac.length z.ca) (.slice (some ⟨z.gi,0,none⟩) z.b.ic.length z.ci) (.slice (some ⟨z.gb,0,none⟩) z.b.bs.length z.cb) (.slice (some ⟨z.gl,0,none⟩) z.b.ls.length z.cl) (.slice (some ⟨z.gt,0,none⟩) z.b.ts.length z.ct) (.int .i64 z.b.lot) b1.size rfl)
 have bs:=one_more u1 (.cells #[.int .i64 ((sg+1)%20),.slice (some ⟨z.ga,0,none⟩) z.b.ac.length z.ca,.slice (some ⟨z.gi,0,none⟩) z.b.ic.length z.ci,.slice (some ⟨z.gb,0,none⟩) z.b.bs.length z.cb,.slice (some ⟨z.gl,0,none⟩) z.b.ls.length z.cl,.slice (some ⟨z.gt,0,none⟩) z.b.ts.length z.ct,.int .i64 z.b.lot] 59)
 have M2:=zh ((zu M1).step bs)
 have GR0:=zh (grow_below (below_grow (row:=some g) b1) bs)
 have l1:=b1.size
 clear b1 bs HM M1
 go_wp2
 generalize hW:u1.alloc (.cells #[.int .i64 ((sg+1)%20),.slice (some ⟨z.ga,0,none⟩) z.b.ac.length z.ca,.slice (some ⟨z.gi,0,none⟩) z.b.ic.length z.ci,.slice (some ⟨z.gb,0,none⟩) z.b.bs.length z.cb,.slice (some ⟨z.gl,0,none⟩) z.b.ls.length z.cl,.slice (some ⟨z.gt,0,none⟩) z.b.ts.length z.ct,.int .i64 z.b.lot] 59)=W0 at *
 clear hW
 go_loopw [15] (fun i wr=>∃(k:Nat) (c:Dx),k≤N∧i= .int .i64 k∧sumZ c.ps≤1048576∧Hid (tornF tx (N-k) k (c.room,c.ps)=tot)∧Hid (Mc wr base g 1 true c (ixB z) sg ct)∧Hid (u.grownBy wr (some g))∧Hid (Bx7 wr u.heap.size u1.heap.size (.int .i64 ((sg+1)%20)) (.slice (some ⟨z.ga,0,none⟩) z.b.ac.length z.ca) (.slice (some ⟨z.gi,0,none⟩) z.b.ic.length z.ci) (.slice (some ⟨z.gb,0,none⟩) z.b.bs.length z.cb) (.slice (some ⟨z.gl,0,none⟩) z.b.ls.length z.cl) (.slice (some ⟨z.gt,0,none⟩) z.b.ts.length z.ct) (.int .i64 z.b.lot))) (fun i _=>N-(intOf i).toNat)
 case atStart=>exact⟨0,x,by omega,rfl,hz,HT,M2,GR0,KB0⟩
 case round=>
  clear HT M2 GR0 KB0
  obtain⟨k,c,hk,rfl,zc,HE,HM,GR,KB⟩:=hrel
  by_cases t:k<N
  ·have tk:(k:Int)<(N:Int):=by omega
   have NX:=zh (show(if(stepD c.room c.ps tx k).2=0 then tornF tx (N-(k+1)) ((k+1:Nat):Int) (stepD c.room c.ps tx k).1 else(c.room,c.ps))=tot from by
    rw[←zu HE,show N-k=(N-(k+1))+1 by omega]
    rfl)
   have SP:=zh (fun u (h:RdD u c) (k2:Rd u z)=>(zu SS) u c k h zc k2)
   have SZ:=zh (step_small (room:=c.room) (ps:=c.ps) (tx:=tx) (k:=k))
   have SL:=zh (step_len (room:=c.room) (ps:=c.ps) (tx:=tx) (k:=k))
   generalize stepD c.room c.ps tx k=sr at *
   obtain⟨⟨sd,sp⟩,wc⟩:=sr
   clear HE
   go_wp2_with fail
   have LG:=(zu HM).k.lt.2
   by_cases wn:wc=0
   ·subst wn
    refine reg_sure (α:=Dx) (fun a y=>((((((((((((((a.put (some 18) (.pointer (some ⟨g,0,none⟩))).put (some 19) (.pointer (some ⟨g,0,none⟩))).put (some 20) (.pointer (some ⟨g,2,none⟩))).put (some 21) (.pointer (some ⟨g,0,none⟩))).put (some 22) (.pointer (some ⟨g,0,none⟩))).put (some 23) (.pointer (some ⟨g,2,none⟩))).put (some 24) (.agg #[.int .i64 c.room,.slice c.a c.ps.length c.c])).put (some 25) (.agg #[.int .i64 ((sg+1)%20),.slice (some ⟨z.ga,0,none⟩) z.b.ac.length z.ca,.slice (some ⟨z.gi,0,none⟩) z.b.ic.length z.ci,.slice (some ⟨z.gb,0,none⟩) z.b.bs.length z.cb,.slice (some ⟨z.gl,0,none⟩) z.b.ls.length z.cl,.slice (some ⟨z.gt,0,none⟩) z.b.ts.length z.ct,.int .i64 z.b.lot])).put (some 26) (.int .i64 k)).put (some 27) (.tuple #[.agg #[.int .i64 y.room,.slice y.a y.ps.length y.c],.int .i64 0])).put (some 28) (.agg #[.int .i64 y.room,.slice y.a y.ps.length y.c])).put (some 29) (.int .i64 0)).put (some 30) (.bool true)).put (some 31) (.bool false))) (fun(y:Dx) U=>Hid ((y.room,y.ps)=(sd,sp)∧Bx7 U u.heap.size u1.heap.size (.int .i64 ((sg+1)%20)) (.slice (some ⟨z.ga,0,none⟩) z.b.ac.length z.ca) (.slice (some ⟨z.gi,0,none⟩) z.b.ic.length z.ci) (.slice (some ⟨z.gb,0,none⟩) z.b.bs.length z.cb) (.slice (some ⟨z.gl,0,none⟩) z.b.ls.length z.cl) (.slice (some ⟨z.gt,0,none⟩) z.b.ts.length z.ct) (.int .i64 z.b.lot)∧u.grownBy U (some g)∧Mc U base g 1 true y (ixB z) sg ct)) ?_ ?_
    ·rintro y U hf
     have YE:=zh (zu hf).1
     have KS:=zh (zu hf).2.1
     have GR2:=zh (zu hf).2.2.1
     have MU:=zh (zu hf).2.2.2
     clear hf HM GR KB
     try simp only[Act.put,zA,zB,zC]
     have NX2:=zh (show tornF tx (N-(k+1)) ((k+1:Nat):Int) (y.room,y.ps)=tot from by have h:=zu NX;rw[if_pos rfl] at h;rw[zu YE];exact h)
     have zy:sumZ y.ps≤1048576:=by have h:=(zu SZ) (by simp);have e:y.ps=sp:=congrArg Prod.snd (zu YE);rw[e];exact h
     clear NX SZ SL SP
     go_wp2
     go_roundw
     case rel=>exact⟨k+1,y,by omega,by go_num,zy,NX2,MU,GR2,KS⟩
     case measure=>simp[intOf];omega
    ·refine wp_region_held_drew (S:=(fun _=>True)) (by kernel_rfl) trivial (fun hHeld=>?_)
     refine zT 0 18 (.pointer (some ⟨g,0,none⟩)) rfl hHeld ?_
     refine zT 1 19 (.pointer (some ⟨g,0,none⟩)) rfl hHeld ?_
     refine zT 2 20 (.pointer (some ⟨g,2,none⟩)) rfl hHeld ?_
     refine zT 3 21 (.pointer (some ⟨g,0,none⟩)) rfl hHeld ?_
     refine zT 4 22 (.pointer (some ⟨g,0,none⟩)) rfl hHeld ?_
     refine zT 5 23 (.pointer (some ⟨g,2,none⟩)) rfl hHeld ?_
     refine zT 8 26 (.int .i64 k) rfl hHeld ?_
     try simp only[Act.put,zA,zB,zC]
     have c2:=(zu HM).k.c2
     have c3:=(zu HM).k.c3
     have d0:=(zu KB).c0
     have d1:=(zu KB).c1
     have d2:=(zu KB).c2
     have d3:=(zu KB).c3
     have d4:=(zu KB).c4
     have d5:=(zu KB).c5
     have d6:=(zu KB).c6
     refine wpAnyH_ready (rs:=[6,7]) (by kernel_rfl) (by simp) ?_
     refine AllReadyH.cons rfl (fun K hK=>?_) (AllReadyH.cons rfl (fun K hK=>?_) AllReadyH.nil)
     go_simp
     refine hK.out _ _ trivial (fun hHeld=>?_)
     clear hK K
     try simp only[Act.put,zA,zB,zC]
     refine wpAnyH_ready (rs:=[7]) (by kernel_rfl) (by simp) ?_
     refine AllReadyH.cons rfl (fun K hK=>?_) AllReadyH.nil
     go_simp
     refine hK.out _ _ trivial (fun hHeld=>?_)
     clear hK K
     try simp only[Act.put,zA,zB,zC]
     rotate_left
     go_simp
     refine hK.out _ _ trivial (fun hHeld=>?_)
     clear hK K
     try simp only[Act.put,zA,zB,zC]
     refine wpAnyH_ready (rs:=[6]) (by kernel_rfl) (by simp) ?_
     refine AllReadyH.cons rfl (fun K hK=>?_) AllReadyH.nil
     go_simp
     refine hK.out _ _ trivial (fun hHeld=>?_)
     clear hK K
     try simp only[Act.put,zA,zB,zC]
     all_goals
      clear c2 c3 d0 d1 d2 d3 d4 d5 d6
      refine zR 9 rfl (fun K hK=>?_)
      go_simp
      go_wp2_with fail
      refine((zu SP) _ ((zu HM).step (Below.refl _ _).drew).rx ((zu HM).step (Below.refl _ _).drew).rz).mono ?_
      rintro e v1 ⟨y,hy,rfl,oy,b6⟩
      have b7:Below wr.heap.size wr v1:=⟨b6.os,b6.tape,b6.output,b6.size,b6.block⟩
      have M3:=zh ((zu HM).step b7)
      have G3:=zh (grow_below (zu GR) b7)
      have K3:=zh ((zu KB).below b7 (zu KB).lt.2)
      have YE:=zh hy
      have LW:=zh (zu HM).k.lt.2
      have OY:=zh (show OwD v1 wr.heap.size y from oy)
      clear b6 b7 hy oy
      go_wp2_with fail
      refine hK.out _ _ trivial (fun hHeld=>?_)
      clear hK K
      refine zT 10 28 (.agg #[.int .i64 y.room,.slice y.a y.ps.length y.c]) rfl hHeld ?_
      refine zT 11 29 (.int .i64 0) rfl hHeld ?_
      try simp only[Act.put,zA,zB,zC]
      refine zR 12 rfl (fun K hK=>?_)
      go_simp
      go_wp2_with fail
      refine(iBecomeYes _ base g _ _ _ _ _ _ _ _ _ _ _ _ _ y (zu M3).k).mono ?_
      rintro e v2 ⟨rfl,k13,g2⟩
      have M4:=zh (Mc.take (zu M3) (zu OY) (zu LW) (by have h:=(zu SL) (by simp);have e:y.ps=sp:=congrArg Prod.snd (zu YE);rw[e];exact h) (grow_refl _ _) g2 k13)
      have G4:=zh (grow_grow (zu G3) g2)
      have K4:=zh ((zu K3).kept g2 (by have:=(zu KB).lt.1;simp;omega))
      clear k13 g2
      go_wp2_with fail
      refine hK.out _ _ trivial (fun hHeld=>?_)
      clear hK K
      refine zT 13 31 (.bool false) rfl hHeld ?_
      try simp only[Act.put,zA,zB,zC]
      refine wpAnyH_done (by kernel_rfl) ?_ _
      exact⟨y,rfl,zh ⟨zu YE,zu K4,zu G4,zu M4⟩⟩
   ·refine reg_sure (α:=Dx) (fun a y=>((((((((((((((a.put (some 18) (.pointer (some ⟨g,0,none⟩))).put (some 19) (.pointer (some ⟨g,0,none⟩))).put (some 20) (.pointer (some ⟨g,2,none⟩))).put (some 21) (.pointer (some ⟨g,0,none⟩))).put (some 22) (.pointer (some ⟨g,0,none⟩))).put (some 23) (.pointer (some ⟨g,2,none⟩))).put (some 24) (.agg #[.int .i64 c.room,.slice c.a c.ps.length c.c])).put (some 25) (.agg #[.int .i64 ((sg+1)%20),.slice (some ⟨z.ga,0,none⟩) z.b.ac.length z.ca,.slice (some ⟨z.gi,0,none⟩) z.b.ic.length z.ci,.slice (some ⟨z.gb,0,none⟩) z.b.bs.length z.cb,.slice (some ⟨z.gl,0,none⟩) z.b.ls.length z.cl,.slice (some ⟨z.gt,0,none⟩) z.b.ts.length z.ct,.int .i64 z.b.lot])).put (some 26) (.int .i64 k)).put (some 27) (.tuple #[.agg #[.int .i64 y.room,.slice y.a y.ps.length y.c],.int .i64 wc])).put (some 28) (.agg #[.int .i64 y.room,.slice y.a y.ps.length y.c])).put (some 29) (.int .i64 wc)).put (some 30) (.bool false)).put (some 31) (.bool true))) (fun(y:Dx) U=>Hid ((y.room,y.ps)=(sd,sp)∧Bx7 U u.heap.size u1.heap.size (.int .i64 ((sg+1)%20)) (.slice (some ⟨z.ga,0,none⟩) z.b.ac.length z.ca) (.slice (some ⟨z.gi,0,none⟩) z.b.ic.length z.ci) (.slice (some ⟨z.gb,0,none⟩) z.b.bs.length z.cb) (.slice (some ⟨z.gl,0,none⟩) z.b.ls.length z.cl) (.slice (some ⟨z.gt,0,none⟩) z.b.ts.length z.ct) (.int .i64 z.b.lot)∧u.grownBy U (some g)∧Mc U base g 1 true c (ixB z) sg ct)) ?_ ?_
    ·rintro y U hf
     have YE:=zh (zu hf).1
     have KS:=zh (zu hf).2.1
     have GR2:=zh (zu hf).2.2.1
     have MU:=zh (zu hf).2.2.2
     clear hf HM GR KB
     try simp only[Act.put,zA,zB,zC]
     have hend:=zh (show(c.room,c.ps)=tot from by have h:=zu NX;rw[if_neg wn] at h;exact h)
     clear NX SZ SL SP
     go_wp2
     try simp only[Exit.inBlock,Exit.then]
     first|refine bodyPost_ret (results_none rfl _ _ _) rfl ?_|go_end0
     exact⟨c,zu hend,zc,rfl,zu MU,zu GR2⟩
    ·refine wp_region_held_drew (S:=(fun _=>True)) (by kernel_rfl) trivial (fun hHeld=>?_)
     refine zT 0 18 (.pointer (some ⟨g,0,none⟩)) rfl hHeld ?_
     refine zT 1 19 (.pointer (some ⟨g,0,none⟩)) rfl hHeld ?_
     refine zT 2 20 (.pointer (some ⟨g,2,none⟩)) rfl hHeld ?_
     refine zT 3 21 (.pointer (some ⟨g,0,none⟩)) rfl hHeld ?_
     refine zT 4 22 (.pointer (some ⟨g,0,none⟩)) rfl hHeld ?_
     refine zT 5 23 (.pointer (some ⟨g,2,none⟩)) rfl hHeld ?_
     refine zT 8 26 (.int .i64 k) rfl hHeld ?_
     try simp only[Act.put,zA,zB,zC]
     have c2:=(zu HM).k.c2
     have c3:=(zu HM).k.c3
     have d0:=(zu KB).c0
     have d1:=(zu KB).c1
     have d2:=(zu KB).c2
     have d3:=(zu KB).c3
     have d4:=(zu KB).c4
     have d5:=(zu KB).c5
     have d6:=(zu KB).c6
     refine wpAnyH_ready (rs:=[6,7]) (by kernel_rfl) (by simp) ?_
     refine AllReadyH.cons rfl (fun K hK=>?_) (AllReadyH.cons rfl (fun K hK=>?_) AllReadyH.nil)
     go_simp
     refine hK.out _ _ trivial (fun hHeld=>?_)
     clear hK K
     try simp only[Act.put,zA,zB,zC]
     refine wpAnyH_ready (rs:=[7]) (by kernel_rfl) (by simp) ?_
     refine AllReadyH.cons rfl (fun K hK=>?_) AllReadyH.nil
     go_simp
     refine hK.out _ _ trivial (fun hHeld=>?_)
     clear hK K
     try simp only[Act.put,zA,zB,zC]
     rotate_left
     go_simp
     refine hK.out _ _ trivial (fun hHeld=>?_)
     clear hK K
     try simp only[Act.put,zA,zB,zC]
     refine wpAnyH_ready (rs:=[6]) (by kernel_rfl) (by simp) ?_
     refine AllReadyH.cons rfl (fun K hK=>?_) AllReadyH.nil
     go_simp
     refine hK.out _ _ trivial (fun hHeld=>?_)
     clear hK K
     try simp only[Act.put,zA,zB,zC]
     all_goals
      clear c2 c3 d0 d1 d2 d3 d4 d5 d6
      refine zR 9 rfl (fun K hK=>?_)
      go_simp
      go_wp2_with fail
      refine((zu SP) _ ((zu HM).step (Below.refl _ _).drew).rx ((zu HM).step (Below.refl _ _).drew).rz).mono ?_
      rintro e v1 ⟨y,hy,rfl,oy,b6⟩
      have b7:Below wr.heap.size wr v1:=⟨b6.os,b6.tape,b6.output,b6.size,b6.block⟩
      have M3:=zh ((zu HM).step b7)
      have G3:=zh (grow_below (zu GR) b7)
      have K3:=zh ((zu KB).below b7 (zu KB).lt.2)
      have YE:=zh hy
      have LW:=zh (zu HM).k.lt.2
      have OY:=zh (show OwD v1 wr.heap.size y from oy)
      clear b6 b7 hy oy
      go_wp2_with fail
      refine hK.out _ _ trivial (fun hHeld=>?_)
      clear hK K
      refine zT 10 28 (.agg #[.int .i64 y.room,.slice y.a y.ps.length y.c]) rfl hHeld ?_
      refine zT 11 29 (.int .i64 wc) rfl hHeld ?_
      try simp only[Act.put,zA,zB,zC]
      refine zR 12 rfl (fun K hK=>?_)
      go_simp
      go_wp2_with fail
      refine(iBecomeNo _ g y wc wn).mono ?_
      rintro e v2 ⟨rfl,b8⟩
      have M4:=zh ((zu M3).step b8)
      have G4:=zh (grow_below (zu G3) b8)
      have K4:=zh ((zu K3).below b8 (zu K3).lt.2)
      clear b8
      go_wp2_with fail
      refine hK.out _ _ trivial (fun hHeld=>?_)
      clear hK K
      refine zT 13 31 (.bool true) rfl hHeld ?_
      try simp only[Act.put,zA,zB,zC]
      refine wpAnyH_done (by kernel_rfl) ?_ _
      exact⟨y,rfl,zh ⟨zu YE,zu K4,zu G4,zu M4⟩⟩
  ·have hend:=zh (show(c.room,c.ps)=tot from by
    have e:N-k=0:=by omega
    have h:=zu HE
    rw[e] at h
    exact h)
   have tk:¬(k:Int)<(N:Int):=by omega
   clear HE
   go_wp2
   try simp only[Exit.inBlock,Exit.then]
   first|refine bodyPost_ret (results_none rfl _ _ _) rfl ?_|go_end0
   exact⟨c,zu hend,zc,rfl,zu HM,zu GR⟩
theorem iTornDeed(u:World)(base g sb kb:Nat)(x:Dx)(z:Bx)(sg ct steps keep:Int)(vb:Bool)(hs:0≤sg∧sg≤19)(hz:sumZ x.ps≤1048576)(hb:Says vb (Ok z.b))(h1:u.cell? ⟨sb,0,none⟩=some (.int .i64 steps))(h2:u.cell? ⟨kb,0,none⟩=some (.int .i64 keep))(gk:kb≠g)(lk:kb<u.heap.size)(m:Mc u base g 1 true x (ixB z) sg ct):
  Calls Tryz.prog 20 (#[.pointer (some ⟨g,0,none⟩)]++ #[.pointer (some ⟨sb,0,none⟩),.pointer (some ⟨kb,0,none⟩)]) u (DeedTo ((false,crashD (tornD x.room x.ps (saveD ((sg+1)%20) z.b vb) steps).1 (tornD x.room x.ps (saveD ((sg+1)%20) z.b vb) steps).2 keep,⟨[],[],[],[],[],0⟩,0,0),0) u base g):=by
 have SV:=zh (iSaveSteps u base g x z sg ct steps vb hs hz hb m.k.lt.2 m)
 generalize tornD x.room x.ps (saveD ((sg+1)%20) z.b vb) steps=tot at *
 clear m hb
 show Calls Tryz.prog 20 #[.pointer (some ⟨g,0,none⟩),.pointer (some ⟨sb,0,none⟩),.pointer (some ⟨kb,0,none⟩)] u _
 go_enter Tryz.func20,Tryz.ntmps20
 go_wp2_with fail
 refine(zu SV).mono ?_
 rintro e u1 ⟨d,hd,zd,rfl,m1,g1⟩
 have h3:u1.cell? ⟨kb,0,none⟩=some (.int .i64 keep):=(App14.kcell g1 0 lk gk).trans h2
 have M1:=zh m1
 have G1:=zh g1
 clear h1 h2 m1 g1 SV
 go_wp2_with fail
 refine(iCrash _ base g true d z sg ct keep zd (zu M1)).mono ?_
 rintro e u2 ⟨x1,y1,hx,hy,rfl,m2,g2⟩
 have F:=zh (show DeedTo ((false,crashD tot.1 tot.2 keep,⟨[],[],[],[],[],0⟩,0,0),0) u base g (.returned (.int .i64 0)) u2 from⟨x1,y1,by rw[hx,←hd],hy,rfl,m2,grow_grow (zu G1) g2⟩)
 clear hx hy m2 g2
 go_wp2
 go_ret
 exact zu F
end IDts17
namespace IEngTs17
open Fil14 OpensF14 DiskH14 DkH14 SDk14 SOk14 SCom14 EBx17 EFin17 SEngOk17 LawW16 CrE17 Mc17 ITurn17 IDeed17 PTorn17 IDts17 VB13
open BMem (Bx Rd Ow)
open Bks (Bk Ok)
open BHelp (Ix)
open Lots (Says)
open SegP15 (okS)
open SSave16 (saveD)
open SStep16 (stepD)
open SCrash14 (crashD)
open Bx16 (Bx7 grow_grow grow_low)
open IDo17 (reg_sure)
theorem iEngineTornSave(w:World)(up:Bool)(x:Dx)(z:Bx)(sg ct:Int)(vb v:Bool)(steps keep:Int)(hr:RdD w x)(hz:sumZ x.ps≤1048576)(hy:Rd w z)(hb:Says vb (Ok z.b))(hv:Says v (OkE up x.room x.ps z.b sg ct)):
  Calls Tryz.prog 7 #[.agg #[.bool up,.int .i64 x.room,.slice x.a x.ps.length x.c,.slice (some ⟨z.ga,0,none⟩) z.b.ac.length z.ca,.slice (some ⟨z.gi,0,none⟩) z.b.ic.length z.ci,.slice (some ⟨z.gb,0,none⟩) z.b.bs.length z.cb,.slice (some ⟨z.gl,0,none⟩) z.b.ls.length z.cl,.slice (some ⟨z.gt,0,none⟩) z.b.ts.length z.ct,.int .i64 z.b.lot,.int .i64 sg,.int .i64 ct],.int .i64 steps,.int .i64 keep] w (ToldE (tornE v vb up x.room x.ps z.b sg ct steps keep) w):=by
 obtain⟨W,hW⟩:∃W,(((w.alloc (.cells #[.bool up,.int .i64 x.room,.slice x.a x.ps.length x.c,.slice (some ⟨z.ga,0,none⟩) z.b.ac.length z.ca,.slice (some ⟨z.gi,0,none⟩) z.b.ic.length z.ci,.slice (some ⟨z.gb,0,none⟩) z.b.bs.length z.cb,.slice (some ⟨z.gl,0,none⟩) z.b.ls.length z.cl,.slice (some ⟨z.gt,0,none⟩) z.b.ts.length z.ct,.int .i64 z.b.lot,.int .i64 sg,.int .i64 ct] 46)).alloc (.cells #[.int .i64 steps] 3)).alloc (.cells #[.int .i64 keep] 3)).alloc (.cells #[.bool false,.int .i64 0,.slice none 0 0,.slice none 0 0,.slice none 0 0,.slice none 0 0,.slice none 0 0,.slice none 0 0,.int .i64 0,.int .i64 0,.int .i64 0] 46)=W:=⟨_,rfl⟩
 have GW:=zh (show Eg w W w.heap.size up x z sg ct from by subst hW;exact(((((Eg.made hr hy (Below.refl _ _) up sg ct)).step (one_more _ (.cells #[.int .i64 steps] 3))).step (one_more _ (.cells #[.int .i64 keep] 3))).step (one_more _ (.cells #[.bool false,.int .i64 0,.slice none 0 0,.slice none 0 0,.slice none 0 0,.slice none 0 0,.slice none 0 0,.slice none 0 0,.int .i64 0,.int .i64 0,.int .i64 0] 46))))
 have KW:=zh (show Bx11 W w.heap.size (w.heap.size+1+1+1) (.bool false) (.int .i64 0) (.slice none 0 0) (.slice none 0 0) (.slice none 0 0) (.slice none 0 0) (.slice none 0 0) (.slice none 0 0) (.int .i64 0) (.int .i64 0) (.int .i64 0) from by subst hW;exact Bx11.made _ _ _ _ _ _ _ _ _ _ _ (by simp;omega) (by simp))
 have ws:W.heap.size=w.heap.size+4:=by subst hW;simp
 have newc:∀(W:World) (v:Value) (t:TypeId) (n:Nat),n=W.heap.size→(W.alloc (.cells #[v] t)).cell? ⟨n,0,none⟩=some v:=fun W v t n e=>by subst e;simp
 have CW0:=zh (show W.cell? ⟨w.heap.size+1,0,none⟩=some (.int .i64 steps) from by subst hW;exact(((one_more _ _).cell (p:=⟨w.heap.size+1,0,none⟩) (by simp)).trans (((one_more _ _).cell (p:=⟨w.heap.size+1,0,none⟩) (by simp)).trans (newc _ (.int .i64 steps) 3 (w.heap.size+1) (by simp)))))
 have CW1:=zh (show W.cell? ⟨w.heap.size+1+1,0,none⟩=some (.int .i64 keep) from by subst hW;exact(((one_more _ _).cell (p:=⟨w.heap.size+1+1,0,none⟩) (by simp)).trans (newc _ (.int .i64 keep) 3 (w.heap.size+1+1) (by simp))))
 replace hW:=zh hW
 clear newc
 have hK:∀(args:Array Value) (u:World),(callFunc 20 args).run Tryz.prog u= .ok (.enter 20 args) u:=fun _ _=>IRead.enters Tryz.func20 (by kernel_rfl) rfl _ _
 have hmf:∀(fn:Fn) (first cp:Array Value) (w:World),(Instr.makeFunc fn first cp).run Tryz.prog w= .ok (.func fn first cp) w:=fun _ _ _ _=>rfl
 have HV:=zh (show v=true↔OkE up x.room x.ps z.b sg ct from hv)
 have TU:=zh (fun(W:World) (c0:W.cell? ⟨w.heap.size+1,0,none⟩=some (.int .i64 steps)) (c1:W.cell? ⟨w.heap.size+1+1,0,none⟩=some (.int .i64 keep)) (l:w.heap.size+4≤W.heap.size) (h:RdD W x) (k:Rd W z)=>iTurnedUp W up x z sg ct vb v 20 #[.pointer (some ⟨w.heap.size+1,0,none⟩),.pointer (some ⟨w.heap.size+1+1,0,none⟩)] ((false,crashD (tornD x.room x.ps (saveD ((sg+1)%20) z.b vb) steps).1 (tornD x.room x.ps (saveD ((sg+1)%20) z.b vb) steps).2 keep,⟨[],[],[],[],[],0⟩,0,0),0) h hz k hb hv hK (fun hv2 hu u g base b lg m=>by subst hu;exact iTornDeed u base g (w.heap.size+1) (w.heap.size+1+1) x z sg ct steps keep vb (of_decide_eq_true (((zu HV).1 hv2).2.1 rfl).2.1) hz hb ((b.cell (p:=⟨w.heap.size+1,0,none⟩) (by show w.heap.size+1<W.heap.size;omega)).trans c0) ((b.cell (p:=⟨w.heap.size+1+1,0,none⟩) (by show w.heap.size+1+1<W.heap.size;omega)).trans c1) (by omega) (Nat.lt_of_lt_of_le (by omega:w.heap.size+1+1<W.heap.size) b.size) m))
 have RE:tornE v vb up x.room x.ps z.b sg ct steps keep=(if v=true then(if up=true then((false,crashD (tornD x.room x.ps (saveD ((sg+1)%20) z.b vb) steps).1 (tornD x.room x.ps (saveD ((sg+1)%20) z.b vb) steps).2 keep,⟨[],[],[],[],[],0⟩,0,0),0) else((up,(x.room,x.ps),z.b,sg,ct),2)) else(noE,1)):=rfl
 rw[RE]
 clear RE hr hy hb hv hz
 obtain⟨c0,c1,c2,c3,c4,c5,c6,c7,c8,c9,c10⟩:=(zu GW).k.cs
 have lt:=(zu GW).k.lt.2
 generalize (if v=true then(if up=true then((false,crashD (tornD x.room x.ps (saveD ((sg+1)%20) z.b vb) steps).1 (tornD x.room x.ps (saveD ((sg+1)%20) z.b vb) steps).2 keep,⟨[],[],[],[],[],0⟩,0,0),0) else((up,(x.room,x.ps),z.b,sg,ct),2)) else(noE,1):PE×Int)=rr at *
 go_enter Tryz.func7,Tryz.ntmps7
 go_wp2_with fail
 rw[zu hW]
 clear hW
 refine((zu TU) _ (zu CW0) (zu CW1) (by omega) (zu GW).r (zu GW).rb).mono ?_
 rintro e u9 ⟨x1,y1,hx1,hy1,rfl,ox,oy,b9⟩
 have G9:=zh ((zu GW).step b9)
 have K9:=zh ((zu KW).below b9 (zu KW).lt.2)
 have OX:=zh ox
 have OY:=zh oy
 have HX:=zh hx1
 have HYY:=zh hy1
 have lk:=(zu KW).lt.2
 clear b9 ox oy hx1 hy1 TU HV
 clear c0 c1 c2 c3 c4 c5 c6 c7 c8 c9 c10 lt
 obtain⟨⟨ru,rd,rb,rs,rt⟩,rc⟩:=rr
 obtain⟨U,hU⟩:∃U,(((((((((((u9).setCell ⟨w.heap.size+1+1+1,0,none⟩ (.bool ru)).setCell ⟨w.heap.size+1+1+1,1,none⟩ (.int .i64 x1.room)).setCell ⟨w.heap.size+1+1+1,2,none⟩ (.slice x1.a x1.ps.length x1.c)).setCell ⟨w.heap.size+1+1+1,3,none⟩ (.slice y1.aa y1.b.ac.length y1.ca)).setCell ⟨w.heap.size+1+1+1,4,none⟩ (.slice y1.ai y1.b.ic.length y1.ci)).setCell ⟨w.heap.size+1+1+1,5,none⟩ (.slice y1.ab y1.b.bs.length y1.cb)).setCell ⟨w.heap.size+1+1+1,6,none⟩ (.slice y1.al y1.b.ls.length y1.cl)).setCell ⟨w.heap.size+1+1+1,7,none⟩ (.slice y1.ats y1.b.ts.length y1.ct)).setCell ⟨w.heap.size+1+1+1,8,none⟩ (.int .i64 y1.b.lot)).setCell ⟨w.heap.size+1+1+1,9,none⟩ (.int .i64 rs)).setCell ⟨w.heap.size+1+1+1,10,none⟩ (.int .i64 rt)=U:=⟨_,rfl⟩
 have EN:=zh (show Below w.heap.size w U∧Bx11 U w.heap.size (w.heap.size+1+1+1) (.bool ru) (.int .i64 x1.room) (.slice x1.a x1.ps.length x1.c) (.slice y1.aa y1.b.ac.length y1.ca) (.slice y1.ai y1.b.ic.length y1.ci) (.slice y1.ab y1.b.bs.length y1.cb) (.slice y1.al y1.b.ls.length y1.cl) (.slice y1.ats y1.b.ts.length y1.ct) (.int .i64 y1.b.lot) (.int .i64 rs) (.int .i64 rt)∧OwD U w.heap.size x1∧OwV U w.heap.size y1∧u9.grownBy U (some (w.heap.size+1+1+1)) from by subst hU;exact ended17 (w:=w) (x:=x1) (y:=y1) ru rs rt (zu G9).b (zu K9) (zu OX) (zu OY) (by omega))
 replace hU:=zh hU
 obtain⟨f0,f1,f2,f3,f4,f5,f6,f7,f8,f9,f10⟩:=(zu K9).fs
 obtain⟨b0,b1,b2,b3,b4,b5,b6,b7,b8,b9,b10⟩:=(zu K9).cs
 go_wp2
 clear f0 b0 f1 b1 f2 b2 f3 b3 f4 b4 f5 b5 f6 b6 f7 b7 f8 b8 f9 b9 f10 b10
 rw[zu hU]
 clear hU
 have r0:=(zu EN).2.1
 obtain⟨q0,q1,q2,q3,q4,q5,q6,q7,q8,q9,q10⟩:=r0.cs
 refine bodyPost_ret (v:= .tuple #[.agg #[.bool ru,.int .i64 x1.room,.slice x1.a x1.ps.length x1.c,.slice y1.aa y1.b.ac.length y1.ca,.slice y1.ai y1.b.ic.length y1.ci,.slice y1.ab y1.b.bs.length y1.cb,.slice y1.al y1.b.ls.length y1.cl,.slice y1.ats y1.b.ts.length y1.ct,.int .i64 y1.b.lot,.int .i64 rs,.int .i64 rt],.int .i64 rc]) (by simp[results,Tryz.results7,go_sem,q0,q1,q2,q3,q4,q5,q6,q7,q8,q9,q10]) rfl ?_
 exact⟨x1,y1,zu HX,zu HYY,rfl,(zu EN).2.2.1,(zu EN).2.2.2.1,(zu EN).1⟩
end IEngTs17
end Go.Proofs.YtppkkmaoaiopaaaGreat
