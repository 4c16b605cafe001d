/- Texts of one proof. -/
import Derived.Test.YtlbgfdpcgpijhaaGreatQB39
import Derived.Test.YtlbgfdpcgpijhaaGreatQB43
import Derived.Test.YtlbgfdpcgpijhaaGreatQB50
open Go.ChangeShapes Go.WideShapes Go.ChangeAt Go.RowKit
set_option linter.unusedVariables false
set_option linter.unusedSimpArgs false
set_option maxRecDepth 100000
set_option maxHeartbeats 32000000
namespace Go.Proofs.YtlbgfdpcgpijhaaGreat
namespace IDeed17
open Fil14 OpensF14 DiskH14 DkH14 SDk14 SOk14 SCom14 EBx17 EFin17 SEngOk17 SEngSa17 LawW16 CrE17 Mc17 ITurn17 VB13
open BMem (Bx Rd Ow)
open Bks (Bk Ok)
open BHelp (Ix)
open Lots (Says)
open SegP15 (okS)
open SSave16 (saveD)
open SWrite16 (writeD)
open Bx16 (Bx7 grow_grow grow_low)
open IDo17 (reg_sure)
theorem iBehind(w:World)(n:Int)(h:0≤n∧n≤19):Calls Tryz.prog 117 #[.int .i64 n] w fun e w'=>e= .returned (.int .i64 ((n+1)%20))∧w'=w:=by
 have a1:wrap64 (n+1)=n+1:=by rw[wrap64];omega
 have E:wrap64 ((n+1).tmod 20)=(n+1)%20:=by rw[Int.tmod_eq_emod_of_nonneg (by omega),wrap64];omega
 go_enter Tryz.func117,Tryz.ntmps117
 go_wp2
 go_ret
 exact⟨by first|rfl|(congr 2;first|exact E|(rw[Int.tmod_eq_emod_of_nonneg (by omega)])),rfl⟩
theorem Bx7.all{w:World}{base g:Nat}{v0 v1 v2 v3 v4 v5 v6:Value}(h:Bx7 w base g v0 v1 v2 v3 v4 v5 v6)(u0 u1 u2 u3 u4 u5 u6:Value):Bx7 (((((((w.setCell ⟨g,0,none⟩ u0).setCell ⟨g,1,none⟩ u1).setCell ⟨g,2,none⟩ u2).setCell ⟨g,3,none⟩ u3).setCell ⟨g,4,none⟩ u4).setCell ⟨g,5,none⟩ u5).setCell ⟨g,6,none⟩ u6) base g u0 u1 u2 u3 u4 u5 u6∧w.grownBy (((((((w.setCell ⟨g,0,none⟩ u0).setCell ⟨g,1,none⟩ u1).setCell ⟨g,2,none⟩ u2).setCell ⟨g,3,none⟩ u3).setCell ⟨g,4,none⟩ u4).setCell ⟨g,5,none⟩ u5).setCell ⟨g,6,none⟩ u6) (some g):=by
 have t0:=h.set0 u0
 have t1:=t0.1.set1 u1
 have t2:=t1.1.set2 u2
 have t3:=t2.1.set3 u3
 have t4:=t3.1.set4 u4
 have t5:=t4.1.set5 u5
 have t6:=t5.1.set6 u6
 exact⟨t6.1,grow_grow (grow_grow (grow_grow (grow_grow (grow_grow (grow_grow t0.2 t1.2) t2.2) t3.2) t4.2) t5.2) t6.2⟩
theorem Mc.take{u u' u1:World}{base g b1:Nat}{l sg ct:Int}{up:Bool}{x y:Dx}{z:Bx}(h:Mc u base g l up x (ixB z) sg ct)(o:OwD u1 b1 y)(hg:g<b1)(n:y.ps.length≤1048576)(k0:u.grownBy u1 (some g))(k:u1.grownBy u' (some g)){l2 sg2 ct2:Int}{up2:Bool}(b:Bx13 u' base g (.int .i32 l2) (.int .u32 0) (.int .i64 y.room) (.slice y.a y.ps.length y.c) (.bool up2) (.slice (some ⟨z.ga,0,none⟩) z.b.ac.length z.ca) (.slice (some ⟨z.gi,0,none⟩) z.b.ic.length z.ci) (.slice (some ⟨z.gb,0,none⟩) z.b.bs.length z.cb) (.slice (some ⟨z.gl,0,none⟩) z.b.ls.length z.cl) (.slice (some ⟨z.gt,0,none⟩) z.b.ts.length z.ct) (.int .i64 z.b.lot) (.int .i64 sg2) (.int .i64 ct2)):Mc u' base g l2 up2 y (ixB z) sg2 ct2:=
 ⟨b,fun V q=>⟨OwD.rd (x:=y) (show OwD V b1 y from row_kept2 o (grow_grow k q) hg) n,(h.st V (grow_grow k0 (grow_grow k q))).2⟩⟩
theorem iSave(u:World)(base g:Nat)(up:Bool)(x:Dx)(z:Bx)(sg ct:Int)(hs:0≤sg∧sg≤19)(m:Mc u base g 1 up x (ixB z) sg ct):
  Calls Tryz.prog 51 #[.pointer (some ⟨g,0,none⟩)] u fun e u'=>e= .returned (.agg #[.int .i64 ((sg+1)%20),.slice (some ⟨z.ga,0,none⟩) z.b.ac.length z.ca,.slice (some ⟨z.gi,0,none⟩) z.b.ic.length z.ci,.slice (some ⟨z.gb,0,none⟩) z.b.bs.length z.cb,.slice (some ⟨z.gl,0,none⟩) z.b.ls.length z.cl,.slice (some ⟨z.gt,0,none⟩) z.b.ts.length z.ct,.int .i64 z.b.lot])∧Below u.heap.size u u':=by
 have HM:=zh (m.step (one_more u (.cells #[.int .i64 0,.slice none 0 0,.slice none 0 0,.slice none 0 0,.slice none 0 0,.slice none 0 0,.int .i64 0] 79)))
 have KB:=zh (Bx7.made (w:=u) (base:=u.heap.size) (g:=u.heap.size) (.int .i64 0) (.slice none 0 0) (.slice none 0 0) (.slice none 0 0) (.slice none 0 0) (.slice none 0 0) (.int .i64 0) (Nat.le_refl _) rfl)
 have BB:=zh (one_more u (.cells #[.int .i64 0,.slice none 0 0,.slice none 0 0,.slice none 0 0,.slice none 0 0,.slice none 0 0,.int .i64 0] 79))
 have LG:=zh (show g<u.heap.size from m.k.lt.2)
 clear m
 go_enter Tryz.func51,Tryz.ntmps51
 go_wp2_with fail
 generalize (u.alloc (.cells #[.int .i64 0,.slice none 0 0,.slice none 0 0,.slice none 0 0,.slice none 0 0,.slice none 0 0,.int .i64 0] 79))=W at *
 refine wp_region_held_drew (S:=(fun w'=>w'.cell? ⟨g,5,none⟩=some (.slice (some ⟨z.ga,0,none⟩) z.b.ac.length z.ca)∧w'.cell? ⟨g,6,none⟩=some (.slice (some ⟨z.gi,0,none⟩) z.b.ic.length z.ci)∧w'.cell? ⟨g,7,none⟩=some (.slice (some ⟨z.gb,0,none⟩) z.b.bs.length z.cb)∧w'.cell? ⟨g,8,none⟩=some (.slice (some ⟨z.gl,0,none⟩) z.b.ls.length z.cl)∧w'.cell? ⟨g,9,none⟩=some (.slice (some ⟨z.gt,0,none⟩) z.b.ts.length z.ct)∧w'.cell? ⟨g,10,none⟩=some (.int .i64 z.b.lot)∧w'.cell? ⟨g,11,none⟩=some (.int .i64 sg))) (by kernel_rfl) ⟨(zu HM).k.c5,(zu HM).k.c6,(zu HM).k.c7,(zu HM).k.c8,(zu HM).k.c9,(zu HM).k.c10,(zu HM).k.c11⟩ (fun hHeld=>?_)
 refine zT 0 3 (.pointer (some ⟨g,0,none⟩)) rfl hHeld ?_
 refine zT 1 4 (.pointer (some ⟨g,0,none⟩)) rfl hHeld ?_
 refine zT 2 5 (.pointer (some ⟨g,11,none⟩)) rfl hHeld ?_
 refine zT 3 6 (.int .i64 sg) rfl hHeld ?_
 refine zT 5 8 (.pointer (some ⟨g,0,none⟩)) rfl hHeld ?_
 refine zT 6 9 (.pointer (some ⟨g,0,none⟩)) rfl hHeld ?_
 refine zT 7 10 (.pointer (some ⟨g,5,none⟩)) rfl hHeld ?_
 refine zT 8 11 (.agg #[.slice (some ⟨z.ga,0,none⟩) z.b.ac.length z.ca,.slice (some ⟨z.gi,0,none⟩) z.b.ic.length z.ci,.slice (some ⟨z.gb,0,none⟩) z.b.bs.length z.cb,.slice (some ⟨z.gl,0,none⟩) z.b.ls.length z.cl,.slice (some ⟨z.gt,0,none⟩) z.b.ts.length z.ct,.int .i64 z.b.lot]) rfl hHeld ?_
 try simp only[Act.put,zA,zB,zC]
 refine zR 4 rfl (fun K hK=>?_)
 go_simp
 go_wp2_with fail
 refine(iBehind _ sg hs).mono ?_
 rintro e v1 ⟨rfl,hq⟩
 have b7:Below W.heap.size W v1:=by subst hq;exact(Below.refl _ _).drew
 have MN:=zh ((zu HM).step b7)
 have KD:=zh ((zu KB).below b7 (zu KB).lt.2)
 have BD:=zh ((zu BB).trans (b7.mono (zu BB).size))
 clear hq b7
 go_wp2_with fail
 refine hK.out _ _ ⟨(zu MN).k.c5,(zu MN).k.c6,(zu MN).k.c7,(zu MN).k.c8,(zu MN).k.c9,(zu MN).k.c10,(zu MN).k.c11⟩ (fun hHeld=>?_)
 clear hK K
 refine zT 9 12 (.agg #[.int .i64 ((sg+1)%20),.slice (some ⟨z.ga,0,none⟩) z.b.ac.length z.ca,.slice (some ⟨z.gi,0,none⟩) z.b.ic.length z.ci,.slice (some ⟨z.gb,0,none⟩) z.b.bs.length z.cb,.slice (some ⟨z.gl,0,none⟩) z.b.ls.length z.cl,.slice (some ⟨z.gt,0,none⟩) z.b.ts.length z.ct,.int .i64 z.b.lot]) rfl hHeld ?_
 try simp only[Act.put,zA,zB,zC]
 have s7:=Bx7.all (zu KD) (.int .i64 ((sg+1)%20)) (.slice (some ⟨z.ga,0,none⟩) z.b.ac.length z.ca) (.slice (some ⟨z.gi,0,none⟩) z.b.ic.length z.ci) (.slice (some ⟨z.gb,0,none⟩) z.b.bs.length z.cb) (.slice (some ⟨z.gl,0,none⟩) z.b.ls.length z.cl) (.slice (some ⟨z.gt,0,none⟩) z.b.ts.length z.ct) (.int .i64 z.b.lot)
 have KN:=zh s7.1
 have kc:∀o,((((((((v1).setCell ⟨u.heap.size,0,none⟩ (.int .i64 ((sg+1)%20))).setCell ⟨u.heap.size,1,none⟩ (.slice (some ⟨z.ga,0,none⟩) z.b.ac.length z.ca)).setCell ⟨u.heap.size,2,none⟩ (.slice (some ⟨z.gi,0,none⟩) z.b.ic.length z.ci)).setCell ⟨u.heap.size,3,none⟩ (.slice (some ⟨z.gb,0,none⟩) z.b.bs.length z.cb)).setCell ⟨u.heap.size,4,none⟩ (.slice (some ⟨z.gl,0,none⟩) z.b.ls.length z.cl)).setCell ⟨u.heap.size,5,none⟩ (.slice (some ⟨z.gt,0,none⟩) z.b.ts.length z.ct)).setCell ⟨u.heap.size,6,none⟩ (.int .i64 z.b.lot)).cell? ⟨g,o,none⟩=v1.cell? ⟨g,o,none⟩:=fun o=>App14.kcell s7.2 o (zu MN).k.lt.2 (by have:=zu LG;omega)
 have BN:=zh (grow_low (B:=u.heap.size) (zu BD) s7.2 ⟨Nat.le_refl _,(zu BD).size⟩)
 clear s7
 have f0:=(zu KD).free 0
 have b0:=(zu KD).c0
 have f1:=(zu KD).free 1
 have b1:=(zu KD).c1
 have f2:=(zu KD).free 2
 have b2:=(zu KD).c2
 have f3:=(zu KD).free 3
 have b3:=(zu KD).c3
 have f4:=(zu KD).free 4
 have b4:=(zu KD).c4
 have f5:=(zu KD).free 5
 have b5:=(zu KD).c5
 have f6:=(zu KD).free 6
 have b6:=(zu KD).c6
 refine zR 10 rfl (fun K hK=>?_)
 go_simp
 refine hK.out _ _ ⟨(kc 5).trans (zu MN).k.c5,(kc 6).trans (zu MN).k.c6,(kc 7).trans (zu MN).k.c7,(kc 8).trans (zu MN).k.c8,(kc 9).trans (zu MN).k.c9,(kc 10).trans (zu MN).k.c10,(kc 11).trans (zu MN).k.c11⟩ (fun hHeld=>?_)
 clear hK K
 try simp only[Act.put,zA,zB,zC]
 clear f0 b0 f1 b1 f2 b2 f3 b3 f4 b4 f5 b5 f6 b6
 generalize (((((((v1).setCell ⟨u.heap.size,0,none⟩ (.int .i64 ((sg+1)%20))).setCell ⟨u.heap.size,1,none⟩ (.slice (some ⟨z.ga,0,none⟩) z.b.ac.length z.ca)).setCell ⟨u.heap.size,2,none⟩ (.slice (some ⟨z.gi,0,none⟩) z.b.ic.length z.ci)).setCell ⟨u.heap.size,3,none⟩ (.slice (some ⟨z.gb,0,none⟩) z.b.bs.length z.cb)).setCell ⟨u.heap.size,4,none⟩ (.slice (some ⟨z.gl,0,none⟩) z.b.ls.length z.cl)).setCell ⟨u.heap.size,5,none⟩ (.slice (some ⟨z.gt,0,none⟩) z.b.ts.length z.ct)).setCell ⟨u.heap.size,6,none⟩ (.int .i64 z.b.lot)=U at *
 refine wpAnyH_done (by kernel_rfl) ?_ _
 go_wp2
 have q0:=(zu KN).c0
 have q1:=(zu KN).c1
 have q2:=(zu KN).c2
 have q3:=(zu KN).c3
 have q4:=(zu KN).c4
 have q5:=(zu KN).c5
 have q6:=(zu KN).c6
 refine bodyPost_ret (v:= .agg #[.int .i64 ((sg+1)%20),.slice (some ⟨z.ga,0,none⟩) z.b.ac.length z.ca,.slice (some ⟨z.gi,0,none⟩) z.b.ic.length z.ci,.slice (some ⟨z.gb,0,none⟩) z.b.bs.length z.cb,.slice (some ⟨z.gl,0,none⟩) z.b.ls.length z.cl,.slice (some ⟨z.gt,0,none⟩) z.b.ts.length z.ct,.int .i64 z.b.lot]) (by simp[results,Tryz.results51,go_sem,q0,q1,q2,q3,q4,q5,q6]) rfl ⟨rfl,zu BN⟩
theorem iBecomeNo(u:World)(g:Nat)(y:Dx)(code:Int)(hc:code≠0):Calls Tryz.prog 52 #[.pointer (some ⟨g,2,none⟩),.agg #[.int .i64 y.room,.slice y.a y.ps.length y.c],.int .i64 code] u fun e u'=>e= .returned (.bool false)∧Below u.heap.size u u':=by
 have ab:(code !=0)=true:=by simpa using hc
 have B:=zh (one_more u (.cells #[.int .i64 y.room,.slice y.a y.ps.length y.c] 38))
 clear hc
 go_enter Tryz.func52,Tryz.ntmps52
 go_wp2
 go_ret
 exact⟨rfl,zu B⟩
theorem iBecomeYes(u:World)(base g:Nat)(v0 v1 v2 v3 v4 v5 v6 v7 v8 v9 v10 v11 v12:Value)(y:Dx)(h:Bx13 u base g v0 v1 v2 v3 v4 v5 v6 v7 v8 v9 v10 v11 v12):Calls Tryz.prog 52 #[.pointer (some ⟨g,2,none⟩),.agg #[.int .i64 y.room,.slice y.a y.ps.length y.c],.int .i64 0] u fun e u'=>e= .returned (.bool true)∧Bx13 u' base g v0 v1 (.int .i64 y.room) (.slice y.a y.ps.length y.c) v4 v5 v6 v7 v8 v9 v10 v11 v12∧u.grownBy u' (some g):=by
 have b0:=one_more u (.cells #[.int .i64 y.room,.slice y.a y.ps.length y.c] 38)
 have h0:=h.below b0 h.lt.2
 have s2:=h0.set2 (.int .i64 y.room)
 have s3:=s2.1.set3 (.slice y.a y.ps.length y.c)
 have F:=zh (And.intro s3.1 (grow_grow (grow_grow (below_grow b0) s2.2) s3.2))
 have d0:(u.alloc (.cells #[.int .i64 y.room,.slice y.a y.ps.length y.c] 38)).cell? ⟨u.heap.size,0,none⟩=some (.int .i64 y.room):=by simp
 have d1:(u.alloc (.cells #[.int .i64 y.room,.slice y.a y.ps.length y.c] 38)).cell? ⟨u.heap.size,1,none⟩=some (.slice y.a y.ps.length y.c):=by simp
 have f2:=h0.free 2
 have f3:=h0.free 3
 have b2:=h0.c2
 have b3:=h0.c3
 clear b0 h0 s2 s3 h
 go_enter Tryz.func52,Tryz.ntmps52
 go_wp2
 go_ret
 exact⟨rfl,(zu F).1,(zu F).2⟩
theorem iSaveDeed(u:World)(base g:Nat)(x:Dx)(z:Bx)(sg ct:Int)(vb:Bool)(hs:0≤sg∧sg≤19)(hz:sumZ x.ps≤1048576)(hb:Says vb (Ok z.b))(lg:g<u.heap.size)(m:Mc u base g 1 true x (ixB z) sg ct):
  Calls Tryz.prog 50 (#[.pointer (some ⟨g,0,none⟩)]++ #[]) u (DeedTo (if(writeD x.room x.ps (saveD ((sg+1)%20) z.b vb)).2=0 then((true,(writeD x.room x.ps (saveD ((sg+1)%20) z.b vb)).1,z.b,(sg+1)%20,0),0) else((true,(x.room,x.ps),z.b,sg,ct),5)) u base g):=by
 have HM:=zh m
 have HB:=zh hb
 obtain⟨wr,hwr⟩:∃wr,writeD x.room x.ps (saveD ((sg+1)%20) z.b vb)=wr:=⟨_,rfl⟩
 have WS:=zh (fun u (h:RdD u x) (k:Rd u z)=>show Calls Tryz.prog 53 #[.agg #[.int .i64 x.room,.slice x.a x.ps.length x.c],.agg #[.int .i64 ((sg+1)%20),.slice (some ⟨z.ga,0,none⟩) z.b.ac.length z.ca,.slice (some ⟨z.gi,0,none⟩) z.b.ic.length z.ci,.slice (some ⟨z.gb,0,none⟩) z.b.bs.length z.cb,.slice (some ⟨z.gl,0,none⟩) z.b.ls.length z.cl,.slice (some ⟨z.gt,0,none⟩) z.b.ts.length z.ct,.int .i64 z.b.lot]] u (ToldD wr u) from by
  have this:=ISaveWrite16.iSaveWrite u x z ((sg+1)%20) vb h hz k hb
  rw[hwr] at this
  exact this)
 have LW:=zh (show wr.1.2.length≤1048576 from by rw[←hwr];exact len_write _ m.rx.n)
 rw[hwr]
 obtain⟨⟨wm,wp⟩,wc⟩:=wr
 clear m hb hwr
 by_cases wn:wc=0
 ·subst wn
  rw[if_pos rfl]
  show Calls Tryz.prog 50 #[.pointer (some ⟨g,0,none⟩)] u _
  go_enter Tryz.func50,Tryz.ntmps50
  go_wp2_with fail
  refine(iSave _ base g true x z sg ct hs (zu HM)).mono ?_
  rintro e u1 ⟨rfl,b1⟩
  have M1:=zh ((zu HM).step b1)
  have KB:=zh (Bx7.made (w:=u1) (base:=u.heap.size) (g:=u1.heap.size) (.int .i64 ((sg+1)%20)) (.slice (some ⟨z.ga,0,none⟩) z.b.ac.length z.ca) (.slice (some ⟨z.gi,0,none⟩) z.b.ic.length z.ci) (.slice (some ⟨z.gb,0,none⟩) z.b.bs.length z.cb) (.slice (some ⟨z.gl,0,none⟩) z.b.ls.length z.cl) (.slice (some ⟨z.gt,0,none⟩) z.b.ts.length z.ct) (.int .i64 z.b.lot) b1.size rfl)
  have bs:=one_more u1 (.cells #[.int .i64 ((sg+1)%20),.slice (some ⟨z.ga,0,none⟩) z.b.ac.length z.ca,.slice (some ⟨z.gi,0,none⟩) z.b.ic.length z.ci,.slice (some ⟨z.gb,0,none⟩) z.b.bs.length z.cb,.slice (some ⟨z.gl,0,none⟩) z.b.ls.length z.cl,.slice (some ⟨z.gt,0,none⟩) z.b.ts.length z.ct,.int .i64 z.b.lot] 79)
  have M2:=zh ((zu M1).step bs)
  have GR:=zh (grow_below (below_grow (row:=some g) b1) bs)
  clear b1 bs HM M1
  go_wp2_with fail
  generalize hW:u1.alloc (.cells #[.int .i64 ((sg+1)%20),.slice (some ⟨z.ga,0,none⟩) z.b.ac.length z.ca,.slice (some ⟨z.gi,0,none⟩) z.b.ic.length z.ci,.slice (some ⟨z.gb,0,none⟩) z.b.bs.length z.cb,.slice (some ⟨z.gl,0,none⟩) z.b.ls.length z.cl,.slice (some ⟨z.gt,0,none⟩) z.b.ts.length z.ct,.int .i64 z.b.lot] 79)=W at *
  clear hW
  have LG:=zh (show g<u.heap.size from by have h1:=(zu M2).k.lt;have:=(zu GR).size;exact lg)
  refine reg_sure (α:=Dx) (fun a y=>(((((((((((((a.put (some 6) (.pointer (some ⟨g,0,none⟩))).put (some 7) (.pointer (some ⟨g,0,none⟩))).put (some 8) (.pointer (some ⟨g,2,none⟩))).put (some 9) (.pointer (some ⟨g,0,none⟩))).put (some 10) (.pointer (some ⟨g,0,none⟩))).put (some 11) (.pointer (some ⟨g,2,none⟩))).put (some 12) (.agg #[.int .i64 x.room,.slice x.a x.ps.length x.c])).put (some 13) (.agg #[.int .i64 ((sg+1)%20),.slice (some ⟨z.ga,0,none⟩) z.b.ac.length z.ca,.slice (some ⟨z.gi,0,none⟩) z.b.ic.length z.ci,.slice (some ⟨z.gb,0,none⟩) z.b.bs.length z.cb,.slice (some ⟨z.gl,0,none⟩) z.b.ls.length z.cl,.slice (some ⟨z.gt,0,none⟩) z.b.ts.length z.ct,.int .i64 z.b.lot])).put (some 14) (.tuple #[.agg #[.int .i64 y.room,.slice y.a y.ps.length y.c],.int .i64 0])).put (some 15) (.agg #[.int .i64 y.room,.slice y.a y.ps.length y.c])).put (some 16) (.int .i64 0)).put (some 17) (.bool true)).put (some 18) (.bool false))) (fun(y:Dx) U=>Hid ((y.room,y.ps)=(wm,wp)∧Bx7 U u.heap.size u1.heap.size (.int .i64 ((sg+1)%20)) (.slice (some ⟨z.ga,0,none⟩) z.b.ac.length z.ca) (.slice (some ⟨z.gi,0,none⟩) z.b.ic.length z.ci) (.slice (some ⟨z.gb,0,none⟩) z.b.bs.length z.cb) (.slice (some ⟨z.gl,0,none⟩) z.b.ls.length z.cl) (.slice (some ⟨z.gt,0,none⟩) z.b.ts.length z.ct) (.int .i64 z.b.lot)∧u.grownBy U (some g)∧Mc U base g 1 true y (ixB z) sg ct)) ?_ ?_
  ·rintro y U hf
   have YE:=zh (zu hf).1
   have KS:=zh (zu hf).2.1
   have GR2:=zh (zu hf).2.2.1
   have MU:=zh (zu hf).2.2.2
   clear hf
   try simp only[Act.put,zA,zB,zC]
   have d0:=(zu KS).c0
   have f11:=(zu MU).k.free 11
   have f12:=(zu MU).k.free 12
   have b11:=(zu MU).k.c11
   have b12:=(zu MU).k.c12
   have s1:=(zu MU).k.set11 (.int .i64 ((sg+1)%20))
   have s2:=s1.1.set12 (.int .i64 0)
   have MV:=zh ((zu MU).turn (grow_grow s1.2 s2.2) s2.1)
   have GV:=zh (grow_grow (zu GR2) (grow_grow s1.2 s2.2))
   clear s1 s2
   go_wp2
   go_ret
   exact⟨y,ixB z,zu YE,rfl,rfl,zu MV,zu GV⟩
  ·refine wp_region_held_drew (S:=(fun _=>True)) (by kernel_rfl) trivial (fun hHeld=>?_)
   refine zT 0 6 (.pointer (some ⟨g,0,none⟩)) rfl hHeld ?_
   refine zT 1 7 (.pointer (some ⟨g,0,none⟩)) rfl hHeld ?_
   refine zT 2 8 (.pointer (some ⟨g,2,none⟩)) rfl hHeld ?_
   refine zT 3 9 (.pointer (some ⟨g,0,none⟩)) rfl hHeld ?_
   refine zT 4 10 (.pointer (some ⟨g,0,none⟩)) rfl hHeld ?_
   refine zT 5 11 (.pointer (some ⟨g,2,none⟩)) rfl hHeld ?_
   try simp only[Act.put,zA,zB,zC]
   have c2:=(zu M2).k.c2
   have c3:=(zu M2).k.c3
   have d0:=(zu KB).c0
   have d1:=(zu KB).c1
   have d2:=(zu KB).c2
   have d3:=(zu KB).c3
   have d4:=(zu KB).c4
   have d5:=(zu KB).c5
   have d6:=(zu KB).c6
   refine wpAnyH_ready (rs:=[6,7]) (by kernel_rfl) (by simp) ?_
   refine AllReadyH.cons rfl (fun K hK=>?_) (AllReadyH.cons rfl (fun K hK=>?_) AllReadyH.nil)
   go_simp
   refine hK.out _ _ trivial (fun hHeld=>?_)
   clear hK K
   try simp only[Act.put,zA,zB,zC]
   refine wpAnyH_ready (rs:=[7]) (by kernel_rfl) (by simp) ?_
   refine AllReadyH.cons rfl (fun K hK=>?_) AllReadyH.nil
   go_simp
   refine hK.out _ _ trivial (fun hHeld=>?_)
   clear hK K
   try simp only[Act.put,zA,zB,zC]
   rotate_left
   go_simp
   refine hK.out _ _ trivial (fun hHeld=>?_)
   clear hK K
   try simp only[Act.put,zA,zB,zC]
   refine wpAnyH_ready (rs:=[6]) (by kernel_rfl) (by simp) ?_
   refine AllReadyH.cons rfl (fun K hK=>?_) AllReadyH.nil
   go_simp
   refine hK.out _ _ trivial (fun hHeld=>?_)
   clear hK K
   try simp only[Act.put,zA,zB,zC]
   all_goals
    clear c2 c3 d0 d1 d2 d3 d4 d5 d6
    refine zR 8 rfl (fun K hK=>?_)
    go_simp
    go_wp2_with fail
    refine((zu WS) _ ((zu M2).step (Below.refl _ _).drew).rx ((zu M2).step (Below.refl _ _).drew).rz).mono ?_
    rintro e v1 ⟨y,hy,rfl,oy,b6⟩
    have b7:Below W.heap.size W v1:=⟨b6.os,b6.tape,b6.output,b6.size,b6.block⟩
    have M3:=zh ((zu M2).step b7)
    have G3:=zh (grow_below (zu GR) b7)
    have K3:=zh ((zu KB).below b7 (zu KB).lt.2)
    have YE:=zh hy
    have OY:=zh (show OwD v1 W.heap.size y from oy)
    have LY:=zh (show y.ps.length≤1048576 from by have:=congrArg Prod.snd hy;simp only at this;rw[this];exact zu LW)
    clear b6 b7 hy oy
    go_wp2_with fail
    refine hK.out _ _ trivial (fun hHeld=>?_)
    clear hK K
    refine zT 9 15 (.agg #[.int .i64 y.room,.slice y.a y.ps.length y.c]) rfl hHeld ?_
    refine zT 10 16 (.int .i64 0) rfl hHeld ?_
    try simp only[Act.put,zA,zB,zC]
    refine zR 11 rfl (fun K hK=>?_)
    go_simp
    go_wp2_with fail
    refine(iBecomeYes _ base g _ _ _ _ _ _ _ _ _ _ _ _ _ y (zu M3).k).mono ?_
    rintro e v2 ⟨rfl,k13,g2⟩
    have M4:=zh (Mc.take (zu M3) (zu OY) (by have:=zu LG;have:=(zu GR).size;omega) (zu LY) (grow_refl _ _) g2 k13)
    have G4:=zh (grow_grow (zu G3) g2)
    have K4:=zh ((zu K3).kept g2 (by have:=zu LG;have:=(zu KB).lt.1;simp;omega))
    clear k13 g2
    go_wp2_with fail
    refine hK.out _ _ trivial (fun hHeld=>?_)
    clear hK K
    refine zT 12 18 (.bool false) rfl hHeld ?_
    try simp only[Act.put,zA,zB,zC]
    refine wpAnyH_done (by kernel_rfl) ?_ _
    exact⟨y,rfl,zh ⟨zu YE,zu K4,zu G4,zu M4⟩⟩
 ·rw[if_neg wn]
  show Calls Tryz.prog 50 #[.pointer (some ⟨g,0,none⟩)] u _
  go_enter Tryz.func50,Tryz.ntmps50
  go_wp2_with fail
  refine(iSave _ base g true x z sg ct hs (zu HM)).mono ?_
  rintro e u1 ⟨rfl,b1⟩
  have M1:=zh ((zu HM).step b1)
  have KB:=zh (Bx7.made (w:=u1) (base:=u.heap.size) (g:=u1.heap.size) (.int .i64 ((sg+1)%20)) (.slice (some ⟨z.ga,0,none⟩) z.b.ac.length z.ca) (.slice (some ⟨z.gi,0,none⟩) z.b.ic.length z.ci) (.slice (some ⟨z.gb,0,none⟩) z.b.bs.length z.cb) (.slice (some ⟨z.gl,0,none⟩) z.b.ls.length z.cl) (.slice (some ⟨z.gt,0,none⟩) z.b.ts.length z.ct) (.int .i64 z.b.lot) b1.size rfl)
  have bs:=one_more u1 (.cells #[.int .i64 ((sg+1)%20),.slice (some ⟨z.ga,0,none⟩) z.b.ac.length z.ca,.slice (some ⟨z.gi,0,none⟩) z.b.ic.length z.ci,.slice (some ⟨z.gb,0,none⟩) z.b.bs.length z.cb,.slice (some ⟨z.gl,0,none⟩) z.b.ls.length z.cl,.slice (some ⟨z.gt,0,none⟩) z.b.ts.length z.ct,.int .i64 z.b.lot] 79)
  have M2:=zh ((zu M1).step bs)
  have GR:=zh (grow_below (below_grow (row:=some g) b1) bs)
  clear b1 bs HM M1
  go_wp2_with fail
  generalize hW:u1.alloc (.cells #[.int .i64 ((sg+1)%20),.slice (some ⟨z.ga,0,none⟩) z.b.ac.length z.ca,.slice (some ⟨z.gi,0,none⟩) z.b.ic.length z.ci,.slice (some ⟨z.gb,0,none⟩) z.b.bs.length z.cb,.slice (some ⟨z.gl,0,none⟩) z.b.ls.length z.cl,.slice (some ⟨z.gt,0,none⟩) z.b.ts.length z.ct,.int .i64 z.b.lot] 79)=W at *
  clear hW
  have LG:=zh (show g<u.heap.size from by have h1:=(zu M2).k.lt;have:=(zu GR).size;exact lg)
  refine reg_sure (α:=Dx) (fun a y=>(((((((((((((a.put (some 6) (.pointer (some ⟨g,0,none⟩))).put (some 7) (.pointer (some ⟨g,0,none⟩))).put (some 8) (.pointer (some ⟨g,2,none⟩))).put (some 9) (.pointer (some ⟨g,0,none⟩))).put (some 10) (.pointer (some ⟨g,0,none⟩))).put (some 11) (.pointer (some ⟨g,2,none⟩))).put (some 12) (.agg #[.int .i64 x.room,.slice x.a x.ps.length x.c])).put (some 13) (.agg #[.int .i64 ((sg+1)%20),.slice (some ⟨z.ga,0,none⟩) z.b.ac.length z.ca,.slice (some ⟨z.gi,0,none⟩) z.b.ic.length z.ci,.slice (some ⟨z.gb,0,none⟩) z.b.bs.length z.cb,.slice (some ⟨z.gl,0,none⟩) z.b.ls.length z.cl,.slice (some ⟨z.gt,0,none⟩) z.b.ts.length z.ct,.int .i64 z.b.lot])).put (some 14) (.tuple #[.agg #[.int .i64 y.room,.slice y.a y.ps.length y.c],.int .i64 wc])).put (some 15) (.agg #[.int .i64 y.room,.slice y.a y.ps.length y.c])).put (some 16) (.int .i64 wc)).put (some 17) (.bool false)).put (some 18) (.bool true))) (fun(y:Dx) U=>Hid ((y.room,y.ps)=(wm,wp)∧Bx7 U u.heap.size u1.heap.size (.int .i64 ((sg+1)%20)) (.slice (some ⟨z.ga,0,none⟩) z.b.ac.length z.ca) (.slice (some ⟨z.gi,0,none⟩) z.b.ic.length z.ci) (.slice (some ⟨z.gb,0,none⟩) z.b.bs.length z.cb) (.slice (some ⟨z.gl,0,none⟩) z.b.ls.length z.cl) (.slice (some ⟨z.gt,0,none⟩) z.b.ts.length z.ct) (.int .i64 z.b.lot)∧u.grownBy U (some g)∧Mc U base g 1 true x (ixB z) sg ct)) ?_ ?_
  ·rintro y U hf
   have YE:=zh (zu hf).1
   have KS:=zh (zu hf).2.1
   have GR2:=zh (zu hf).2.2.1
   have MU:=zh (zu hf).2.2.2
   clear hf
   try simp only[Act.put,zA,zB,zC]
   go_wp2
   go_ret
   exact⟨x,ixB z,rfl,rfl,rfl,zu MU,zu GR2⟩
  ·refine wp_region_held_drew (S:=(fun _=>True)) (by kernel_rfl) trivial (fun hHeld=>?_)
   refine zT 0 6 (.pointer (some ⟨g,0,none⟩)) rfl hHeld ?_
   refine zT 1 7 (.pointer (some ⟨g,0,none⟩)) rfl hHeld ?_
   refine zT 2 8 (.pointer (some ⟨g,2,none⟩)) rfl hHeld ?_
   refine zT 3 9 (.pointer (some ⟨g,0,none⟩)) rfl hHeld ?_
   refine zT 4 10 (.pointer (some ⟨g,0,none⟩)) rfl hHeld ?_
   refine zT 5 11 (.pointer (some ⟨g,2,none⟩)) rfl hHeld ?_
   try simp only[Act.put,zA,zB,zC]
   have c2:=(zu M2).k.c2
   have c3:=(zu M2).k.c3
   have d0:=(zu KB).c0
   have d1:=(zu KB).c1
   have d2:=(zu KB).c2
   have d3:=(zu KB).c3
   have d4:=(zu KB).c4
   have d5:=(zu KB).c5
   have d6:=(zu KB).c6
   refine wpAnyH_ready (rs:=[6,7]) (by kernel_rfl) (by simp) ?_
   refine AllReadyH.cons rfl (fun K hK=>?_) (AllReadyH.cons rfl (fun K hK=>?_) AllReadyH.nil)
   go_simp
   refine hK.out _ _ trivial (fun hHeld=>?_)
   clear hK K
   try simp only[Act.put,zA,zB,zC]
   refine wpAnyH_ready (rs:=[7]) (by kernel_rfl) (by simp) ?_
   refine AllReadyH.cons rfl (fun K hK=>?_) AllReadyH.nil
   go_simp
   refine hK.out _ _ trivial (fun hHeld=>?_)
   clear hK K
   try simp only[Act.put,zA,zB,zC]
   rotate_left
   go_simp
   refine hK.out _ _ trivial (fun hHeld=>?_)
   clear hK K
   try simp only[Act.put,zA,zB,zC]
   refine wpAnyH_ready (rs:=[6]) (by kernel_rfl) (by simp) ?_
   refine AllReadyH.cons rfl (fun K hK=>?_) AllReadyH.nil
   go_simp
   refine hK.out _ _ trivial (fun hHeld=>?_)
   clear hK K
   try simp only[Act.put,zA,zB,zC]
   all_goals
    clear c2 c3 d0 d1 d2 d3 d4 d5 d6
    refine zR 8 rfl (fun K hK=>?_)
    go_simp
    go_wp2_with fail
    refine((zu WS) _ ((zu M2).step (Below.refl _ _).drew).rx ((zu M2).step (Below.refl _ _).drew).rz).mono ?_
    rintro e v1 ⟨y,hy,rfl,oy,b6⟩
    have b7:Below W.heap.size W v1:=⟨b6.os,b6.tape,b6.output,b6.size,b6.block⟩
    have M3:=zh ((zu M2).step b7)
    have G3:=zh (grow_below (zu GR) b7)
    have K3:=zh ((zu KB).below b7 (zu KB).lt.2)
    have YE:=zh hy
    have OY:=zh (show OwD v1 W.heap.size y from oy)
    have LY:=zh (show y.ps.length≤1048576 from by have:=congrArg Prod.snd hy;simp only at this;rw[this];exact zu LW)
    clear b6 b7 hy oy
    go_wp2_with fail
    refine hK.out _ _ trivial (fun hHeld=>?_)
    clear hK K
    refine zT 9 15 (.agg #[.int .i64 y.room,.slice y.a y.ps.length y.c]) rfl hHeld ?_
    refine zT 10 16 (.int .i64 wc) rfl hHeld ?_
    try simp only[Act.put,zA,zB,zC]
    refine zR 11 rfl (fun K hK=>?_)
    go_simp
    go_wp2_with fail
    refine(iBecomeNo _ g y wc wn).mono ?_
    rintro e v2 ⟨rfl,b8⟩
    have M4:=zh ((zu M3).step b8)
    have G4:=zh (grow_below (zu G3) b8)
    have K4:=zh ((zu K3).below b8 (zu K3).lt.2)
    clear b8
    go_wp2_with fail
    refine hK.out _ _ trivial (fun hHeld=>?_)
    clear hK K
    refine zT 12 18 (.bool true) rfl hHeld ?_
    try simp only[Act.put,zA,zB,zC]
    refine wpAnyH_done (by kernel_rfl) ?_ _
    exact⟨y,rfl,zh ⟨zu YE,zu K4,zu G4,zu M4⟩⟩
end IDeed17
namespace IEngSa17
open Fil14 OpensF14 DiskH14 DkH14 SDk14 SOk14 SCom14 EBx17 EFin17 SEngOk17 SEngSa17 LawW16 CrE17 Mc17 ITurn17 IDeed17 VB13
open BMem (Bx Rd Ow)
open Bks (Bk Ok)
open BHelp (Ix)
open Lots (Says)
open SegP15 (okS)
open SSave16 (saveD)
open SWrite16 (writeD)
open Bx16 (Bx7 grow_grow grow_low)
open IDo17 (reg_sure)
theorem iEngineSave(w:World)(up:Bool)(x:Dx)(z:Bx)(sg ct:Int)(vb v:Bool)(hr:RdD w x)(hz:sumZ x.ps≤1048576)(hy:Rd w z)(hb:Says vb (Ok z.b))(hv:Says v (OkE up x.room x.ps z.b sg ct)):
  Calls Tryz.prog 18 #[.agg #[.bool up,.int .i64 x.room,.slice x.a x.ps.length x.c,.slice (some ⟨z.ga,0,none⟩) z.b.ac.length z.ca,.slice (some ⟨z.gi,0,none⟩) z.b.ic.length z.ci,.slice (some ⟨z.gb,0,none⟩) z.b.bs.length z.cb,.slice (some ⟨z.gl,0,none⟩) z.b.ls.length z.cl,.slice (some ⟨z.gt,0,none⟩) z.b.ts.length z.ct,.int .i64 z.b.lot,.int .i64 sg,.int .i64 ct]] w (ToldE (saveE v vb up x.room x.ps z.b sg ct) w):=by
 have GW:=zh (((Eg.made hr hy (Below.refl _ _) up sg ct)).step (one_more _ (.cells #[.bool false,.int .i64 0,.slice none 0 0,.slice none 0 0,.slice none 0 0,.slice none 0 0,.slice none 0 0,.slice none 0 0,.int .i64 0,.int .i64 0,.int .i64 0] 47)))
 have KW:=zh (Bx11.made (w:=(w.alloc (.cells #[.bool up,.int .i64 x.room,.slice x.a x.ps.length x.c,.slice (some ⟨z.ga,0,none⟩) z.b.ac.length z.ca,.slice (some ⟨z.gi,0,none⟩) z.b.ic.length z.ci,.slice (some ⟨z.gb,0,none⟩) z.b.bs.length z.cb,.slice (some ⟨z.gl,0,none⟩) z.b.ls.length z.cl,.slice (some ⟨z.gt,0,none⟩) z.b.ts.length z.ct,.int .i64 z.b.lot,.int .i64 sg,.int .i64 ct] 47))) (base:=w.heap.size) (g:=w.heap.size+1) (.bool false) (.int .i64 0) (.slice none 0 0) (.slice none 0 0) (.slice none 0 0) (.slice none 0 0) (.slice none 0 0) (.slice none 0 0) (.int .i64 0) (.int .i64 0) (.int .i64 0) (by simp) (by simp))
 have ws:((w.alloc (.cells #[.bool up,.int .i64 x.room,.slice x.a x.ps.length x.c,.slice (some ⟨z.ga,0,none⟩) z.b.ac.length z.ca,.slice (some ⟨z.gi,0,none⟩) z.b.ic.length z.ci,.slice (some ⟨z.gb,0,none⟩) z.b.bs.length z.cb,.slice (some ⟨z.gl,0,none⟩) z.b.ls.length z.cl,.slice (some ⟨z.gt,0,none⟩) z.b.ts.length z.ct,.int .i64 z.b.lot,.int .i64 sg,.int .i64 ct] 47)).alloc (.cells #[.bool false,.int .i64 0,.slice none 0 0,.slice none 0 0,.slice none 0 0,.slice none 0 0,.slice none 0 0,.slice none 0 0,.int .i64 0,.int .i64 0,.int .i64 0] 47)).heap.size=w.heap.size+2:=by simp
 have hK:∀(args:Array Value) (u:World),(callFunc 50 args).run Tryz.prog u= .ok (.enter 50 args) u:=fun _ _=>IRead.enters Tryz.func50 (by kernel_rfl) rfl _ _
 have hmf:∀(fn:Fn) (first cp:Array Value) (w:World),(Instr.makeFunc fn first cp).run Tryz.prog w= .ok (.func fn first cp) w:=fun _ _ _ _=>rfl
 have HV:=zh (show v=true↔OkE up x.room x.ps z.b sg ct from hv)
 have TU:=zh (fun(W:World) (l:w.heap.size+2≤W.heap.size) (h:RdD W x) (k:Rd W z)=>iTurnedUp W up x z sg ct vb v 50 #[] (if(writeD x.room x.ps (saveD ((sg+1)%20) z.b vb)).2=0 then((true,(writeD x.room x.ps (saveD ((sg+1)%20) z.b vb)).1,z.b,(sg+1)%20,0),0) else((up,(x.room,x.ps),z.b,sg,ct),5)) h hz k hb hv hK (fun hv2 hu u g base b lg m=>by subst hu;exact iSaveDeed u base g x z sg ct vb (of_decide_eq_true (((zu HV).1 hv2).2.1 rfl).2.1) hz hb m.k.lt.2 m))
 have RE:saveE v vb up x.room x.ps z.b sg ct=(if v=true then(if up=true then(if(writeD x.room x.ps (saveD ((sg+1)%20) z.b vb)).2=0 then((true,(writeD x.room x.ps (saveD ((sg+1)%20) z.b vb)).1,z.b,(sg+1)%20,0),0) else((up,(x.room,x.ps),z.b,sg,ct),5)) else((up,(x.room,x.ps),z.b,sg,ct),2)) else(noE,1)):=rfl
 rw[RE]
 clear RE hr hy hb hv hz
 obtain⟨c0,c1,c2,c3,c4,c5,c6,c7,c8,c9,c10⟩:=(zu GW).k.cs
 have lt:=(zu GW).k.lt.2
 generalize (if v=true then(if up=true then(if(writeD x.room x.ps (saveD ((sg+1)%20) z.b vb)).2=0 then((true,(writeD x.room x.ps (saveD ((sg+1)%20) z.b vb)).1,z.b,(sg+1)%20,0),0) else((up,(x.room,x.ps),z.b,sg,ct),5)) else((up,(x.room,x.ps),z.b,sg,ct),2)) else(noE,1):PE×Int)=rr at *
 go_enter Tryz.func18,Tryz.ntmps18
 go_wp2_with fail
 generalize (w.alloc (.cells #[.bool up,.int .i64 x.room,.slice x.a x.ps.length x.c,.slice (some ⟨z.ga,0,none⟩) z.b.ac.length z.ca,.slice (some ⟨z.gi,0,none⟩) z.b.ic.length z.ci,.slice (some ⟨z.gb,0,none⟩) z.b.bs.length z.cb,.slice (some ⟨z.gl,0,none⟩) z.b.ls.length z.cl,.slice (some ⟨z.gt,0,none⟩) z.b.ts.length z.ct,.int .i64 z.b.lot,.int .i64 sg,.int .i64 ct] 47)).alloc (.cells #[.bool false,.int .i64 0,.slice none 0 0,.slice none 0 0,.slice none 0 0,.slice none 0 0,.slice none 0 0,.slice none 0 0,.int .i64 0,.int .i64 0,.int .i64 0] 47)=W at *
 refine((zu TU) _ (by omega) (zu GW).r (zu GW).rb).mono ?_
 rintro e u9 ⟨x1,y1,hx1,hy1,rfl,ox,oy,b9⟩
 have G9:=zh ((zu GW).step b9)
 have K9:=zh ((zu KW).below b9 (zu KW).lt.2)
 have OX:=zh ox
 have OY:=zh oy
 have HX:=zh hx1
 have HYY:=zh hy1
 have lk:=(zu KW).lt.2
 clear b9 ox oy hx1 hy1 TU HV
 clear c0 c1 c2 c3 c4 c5 c6 c7 c8 c9 c10 lt
 obtain⟨⟨ru,rd,rb,rs,rt⟩,rc⟩:=rr
 obtain⟨U,hU⟩:∃U,(((((((((((u9).setCell ⟨w.heap.size+1,0,none⟩ (.bool ru)).setCell ⟨w.heap.size+1,1,none⟩ (.int .i64 x1.room)).setCell ⟨w.heap.size+1,2,none⟩ (.slice x1.a x1.ps.length x1.c)).setCell ⟨w.heap.size+1,3,none⟩ (.slice y1.aa y1.b.ac.length y1.ca)).setCell ⟨w.heap.size+1,4,none⟩ (.slice y1.ai y1.b.ic.length y1.ci)).setCell ⟨w.heap.size+1,5,none⟩ (.slice y1.ab y1.b.bs.length y1.cb)).setCell ⟨w.heap.size+1,6,none⟩ (.slice y1.al y1.b.ls.length y1.cl)).setCell ⟨w.heap.size+1,7,none⟩ (.slice y1.ats y1.b.ts.length y1.ct)).setCell ⟨w.heap.size+1,8,none⟩ (.int .i64 y1.b.lot)).setCell ⟨w.heap.size+1,9,none⟩ (.int .i64 rs)).setCell ⟨w.heap.size+1,10,none⟩ (.int .i64 rt)=U:=⟨_,rfl⟩
 have EN:=zh (show Below w.heap.size w U∧Bx11 U w.heap.size (w.heap.size+1) (.bool ru) (.int .i64 x1.room) (.slice x1.a x1.ps.length x1.c) (.slice y1.aa y1.b.ac.length y1.ca) (.slice y1.ai y1.b.ic.length y1.ci) (.slice y1.ab y1.b.bs.length y1.cb) (.slice y1.al y1.b.ls.length y1.cl) (.slice y1.ats y1.b.ts.length y1.ct) (.int .i64 y1.b.lot) (.int .i64 rs) (.int .i64 rt)∧OwD U w.heap.size x1∧OwV U w.heap.size y1∧u9.grownBy U (some (w.heap.size+1)) from by subst hU;exact ended17 (w:=w) (x:=x1) (y:=y1) ru rs rt (zu G9).b (zu K9) (zu OX) (zu OY) (by omega))
 replace hU:=zh hU
 obtain⟨f0,f1,f2,f3,f4,f5,f6,f7,f8,f9,f10⟩:=(zu K9).fs
 obtain⟨b0,b1,b2,b3,b4,b5,b6,b7,b8,b9,b10⟩:=(zu K9).cs
 go_wp2
 clear f0 b0 f1 b1 f2 b2 f3 b3 f4 b4 f5 b5 f6 b6 f7 b7 f8 b8 f9 b9 f10 b10
 rw[zu hU]
 clear hU
 have r0:=(zu EN).2.1
 obtain⟨q0,q1,q2,q3,q4,q5,q6,q7,q8,q9,q10⟩:=r0.cs
 refine bodyPost_ret (v:= .tuple #[.agg #[.bool ru,.int .i64 x1.room,.slice x1.a x1.ps.length x1.c,.slice y1.aa y1.b.ac.length y1.ca,.slice y1.ai y1.b.ic.length y1.ci,.slice y1.ab y1.b.bs.length y1.cb,.slice y1.al y1.b.ls.length y1.cl,.slice y1.ats y1.b.ts.length y1.ct,.int .i64 y1.b.lot,.int .i64 rs,.int .i64 rt],.int .i64 rc]) (by simp[results,Tryz.results18,go_sem,q0,q1,q2,q3,q4,q5,q6,q7,q8,q9,q10]) rfl ?_
 exact⟨x1,y1,zu HX,zu HYY,rfl,(zu EN).2.2.1,(zu EN).2.2.2.1,(zu EN).1⟩
end IEngSa17
end Go.Proofs.YtlbgfdpcgpijhaaGreat
