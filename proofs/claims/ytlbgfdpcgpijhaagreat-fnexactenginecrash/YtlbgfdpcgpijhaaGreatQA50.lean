/- Texts of one proof. -/
import Derived.Test.YtlbgfdpcgpijhaaGreatQA46
import Derived.Test.YtlbgfdpcgpijhaaGreatQA47
import Derived.Test.YtlbgfdpcgpijhaaGreatQA48
import Derived.Test.YtlbgfdpcgpijhaaGreatQA49
import Derived.Handy
open Go.ChangeShapes Go.WideShapes Go.ChangeAt Go.RowKit
set_option linter.unusedVariables false
set_option linter.unusedSimpArgs false
set_option maxRecDepth 100000
set_option maxHeartbeats 32000000
namespace Go.Proofs.YtlbgfdpcgpijhaaGreat
namespace IDeed17
open Fil14 OpensF14 DiskH14 DkH14 SDk14 SOk14 SCom14 EBx17 EFin17 SEngOk17 LawW16 CrE17 Mc17 ITurn17 VB13
open BMem (Bx Rd Ow)
open Bks (Bk Ok)
open BHelp (Ix)
open Lots (Says)
open SegP15 (okS)
open SCrash14 (crashD)
open Bx16 (Bx7 grow_grow grow_low)
open IDo17 (reg_sure)
theorem Bx7.all{w:World}{base g:Nat}{v0 v1 v2 v3 v4 v5 v6:Value}(h:Bx7 w base g v0 v1 v2 v3 v4 v5 v6)(u0 u1 u2 u3 u4 u5 u6:Value):Bx7 (((((((w.setCell ⟨g,0,none⟩ u0).setCell ⟨g,1,none⟩ u1).setCell ⟨g,2,none⟩ u2).setCell ⟨g,3,none⟩ u3).setCell ⟨g,4,none⟩ u4).setCell ⟨g,5,none⟩ u5).setCell ⟨g,6,none⟩ u6) base g u0 u1 u2 u3 u4 u5 u6∧w.grownBy (((((((w.setCell ⟨g,0,none⟩ u0).setCell ⟨g,1,none⟩ u1).setCell ⟨g,2,none⟩ u2).setCell ⟨g,3,none⟩ u3).setCell ⟨g,4,none⟩ u4).setCell ⟨g,5,none⟩ u5).setCell ⟨g,6,none⟩ u6) (some g):=by
 have t0:=h.set0 u0
 have t1:=t0.1.set1 u1
 have t2:=t1.1.set2 u2
 have t3:=t2.1.set3 u3
 have t4:=t3.1.set4 u4
 have t5:=t4.1.set5 u5
 have t6:=t5.1.set6 u6
 exact⟨t6.1,grow_grow (grow_grow (grow_grow (grow_grow (grow_grow (grow_grow t0.2 t1.2) t2.2) t3.2) t4.2) t5.2) t6.2⟩
theorem Mc.take{u u' u1:World}{base g b1:Nat}{l sg ct:Int}{up:Bool}{x y:Dx}{z:Bx}(h:Mc u base g l up x (ixB z) sg ct)(o:OwD u1 b1 y)(hg:g<b1)(n:y.ps.length≤1048576)(k0:u.grownBy u1 (some g))(k:u1.grownBy u' (some g)){l2 sg2 ct2:Int}{up2:Bool}(b:Bx13 u' base g (.int .i32 l2) (.int .u32 0) (.int .i64 y.room) (.slice y.a y.ps.length y.c) (.bool up2) (.slice (some ⟨z.ga,0,none⟩) z.b.ac.length z.ca) (.slice (some ⟨z.gi,0,none⟩) z.b.ic.length z.ci) (.slice (some ⟨z.gb,0,none⟩) z.b.bs.length z.cb) (.slice (some ⟨z.gl,0,none⟩) z.b.ls.length z.cl) (.slice (some ⟨z.gt,0,none⟩) z.b.ts.length z.ct) (.int .i64 z.b.lot) (.int .i64 sg2) (.int .i64 ct2)):Mc u' base g l2 up2 y (ixB z) sg2 ct2:=
 ⟨b,fun V q=>⟨OwD.rd (x:=y) (show OwD V b1 y from row_kept2 o (grow_grow k q) hg) n,(h.st V (grow_grow k0 (grow_grow k q))).2⟩⟩
theorem iCrash(u:World)(base g:Nat)(up:Bool)(x:Dx)(z:Bx)(sg ct keep:Int)(hz:sumZ x.ps≤1048576)(m:Mc u base g 1 up x (ixB z) sg ct):
  Calls Tryz.prog 56 #[.pointer (some ⟨g,0,none⟩),.int .i64 keep] u (DeedTo ((false,crashD x.room x.ps keep,⟨[],[],[],[],[],0⟩,0,0),0) u base g):=by
 have HM:=zh m
 have LC:=zh (show(crashD x.room x.ps keep).2.length≤1048576 from len_crash m.rx.n)
 have LG:=zh (show g<u.heap.size from m.k.lt.2)
 clear m
 have c2:=(zu HM).k.c2
 have c3:=(zu HM).k.c3
 go_enter Tryz.func56,Tryz.ntmps56
 go_wp2_with fail
 refine(ICrash14.iDiskCrash _ x keep (zu HM).rx hz).mono ?_
 rintro e u1 ⟨y,hy,rfl,oy,b1⟩
 have K1:=zh ((zu HM).k.below b1 (zu LG))
 have G1:=zh (below_grow (row:=some g) b1)
 have YE:=zh hy
 have LY:=zh (show y.ps.length≤1048576 from by have:=congrArg Prod.snd hy;simp only at this;rw[this];exact zu LC)
 have OY:=zh (show OwD u1 u.heap.size y from oy)
 clear c2 c3 hy oy b1 HM LC
 have s2:=(zu K1).set2 (.int .i64 y.room)
 have s3:=s2.1.set3 (.slice y.a y.ps.length y.c)
 have K2:=zh s3.1
 have G2:=zh (grow_grow (zu G1) (grow_grow s2.2 s3.2))
 have O2:=zh (show OwD _ u.heap.size y from row_kept2 (zu OY) (grow_grow s2.2 s3.2) (zu LG))
 have f2:=(zu K1).free 2
 have f3:=(zu K1).free 3
 have b2:=(zu K1).c2
 have b3:=(zu K1).c3
 clear s2 s3
 go_wp2_with fail
 clear f2 f3 b2 b3
 generalize (u1.setCell ⟨g,2,none⟩ (.int .i64 y.room)).setCell ⟨g,3,none⟩ (.slice y.a y.ps.length y.c)=U at *
 refine(IEngOk17.iNew _).mono ?_
 rintro e u2 ⟨rfl,b2⟩
 have K3:=zh ((zu K2).below b2 (zu K2).lt.2)
 have G3:=zh (grow_below (zu G2) b2)
 have O3:=zh ((zu O2).step b2)
 clear K1 G1 OY K2 G2 O2 b2
 have s4:=(zu K3).set4 (.bool false)
 have s5:=s4.1.set5 (.slice none 0 0)
 have s6:=s5.1.set6 (.slice none 0 0)
 have s7:=s6.1.set7 (.slice none 0 0)
 have s8:=s7.1.set8 (.slice none 0 0)
 have s9:=s8.1.set9 (.slice none 0 0)
 have s10:=s9.1.set10 (.int .i64 0)
 have s11:=s10.1.set11 (.int .i64 0)
 have s12:=s11.1.set12 (.int .i64 0)
 have gs:=(grow_grow (grow_grow (grow_grow (grow_grow (grow_grow (grow_grow (grow_grow (grow_grow s4.2 s5.2) s6.2) s7.2) s8.2) s9.2) s10.2) s11.2) s12.2)
 have K4:=zh s12.1
 have G4:=zh (grow_grow (zu G3) gs)
 have O4:=zh (show OwD _ u.heap.size y from row_kept2 (zu O3) gs (zu LG))
 clear gs s4 s5 s6 s7 s8 s9 s10 s11 s12
 have f4:=(zu K3).free 4
 have b4:=(zu K3).c4
 have f5:=(zu K3).free 5
 have b5:=(zu K3).c5
 have f6:=(zu K3).free 6
 have b6:=(zu K3).c6
 have f7:=(zu K3).free 7
 have b7:=(zu K3).c7
 have f8:=(zu K3).free 8
 have b8:=(zu K3).c8
 have f9:=(zu K3).free 9
 have b9:=(zu K3).c9
 have f10:=(zu K3).free 10
 have b10:=(zu K3).c10
 have f11:=(zu K3).free 11
 have b11:=(zu K3).c11
 have f12:=(zu K3).free 12
 have b12:=(zu K3).c12
 go_wp2
 go_ret
 exact⟨y,noI,zu YE,rfl,rfl,⟨zu K4,fun V q=>⟨OwD.rd (x:=y) (show OwD V u.heap.size y from row_kept2 (zu O4) q (zu LG)) (zu LY),.inr rfl⟩⟩,zu G4⟩
theorem iCrashDeed(u:World)(base g kb:Nat)(up:Bool)(x:Dx)(z:Bx)(sg ct keep:Int)(hz:sumZ x.ps≤1048576)(hk:u.cell? ⟨kb,0,none⟩=some (.int .i64 keep))(m:Mc u base g 1 up x (ixB z) sg ct):
  Calls Tryz.prog 55 (#[.pointer (some ⟨g,0,none⟩)]++ #[.pointer (some ⟨kb,0,none⟩)]) u (DeedTo ((false,crashD x.room x.ps keep,⟨[],[],[],[],[],0⟩,0,0),0) u base g):=by
 have HM:=zh m
 clear m
 show Calls Tryz.prog 55 #[.pointer (some ⟨g,0,none⟩),.pointer (some ⟨kb,0,none⟩)] u _
 go_enter Tryz.func55,Tryz.ntmps55
 go_wp2_with fail
 refine(iCrash _ base g up x z sg ct keep hz (zu HM)).mono ?_
 rintro e u1 ⟨x1,y1,hx,hy,rfl,m1,g1⟩
 have F:=zh (show DeedTo ((false,crashD x.room x.ps keep,⟨[],[],[],[],[],0⟩,0,0),0) u base g (.returned (.int .i64 0)) u1 from⟨x1,y1,hx,hy,rfl,m1,g1⟩)
 clear hx hy m1 g1
 go_wp2
 go_ret
 exact zu F
end IDeed17
namespace IEngCr17
open Fil14 OpensF14 DiskH14 DkH14 SDk14 SOk14 SCom14 EBx17 EFin17 SEngOk17 LawW16 CrE17 Mc17 ITurn17 IDeed17 VB13
open BMem (Bx Rd Ow)
open Bks (Bk Ok)
open BHelp (Ix)
open Lots (Says)
open SegP15 (okS)
open SCrash14 (crashD)
open Bx16 (Bx7 grow_grow grow_low)
open IDo17 (reg_sure)
theorem iEngineCrash(w:World)(up:Bool)(x:Dx)(z:Bx)(sg ct:Int)(vb v:Bool)(keep:Int)(hr:RdD w x)(hz:sumZ x.ps≤1048576)(hy:Rd w z)(hb:Says vb (Ok z.b))(hv:Says v (OkE up x.room x.ps z.b sg ct)):
  Calls Tryz.prog 20 #[.agg #[.bool up,.int .i64 x.room,.slice x.a x.ps.length x.c,.slice (some ⟨z.ga,0,none⟩) z.b.ac.length z.ca,.slice (some ⟨z.gi,0,none⟩) z.b.ic.length z.ci,.slice (some ⟨z.gb,0,none⟩) z.b.bs.length z.cb,.slice (some ⟨z.gl,0,none⟩) z.b.ls.length z.cl,.slice (some ⟨z.gt,0,none⟩) z.b.ts.length z.ct,.int .i64 z.b.lot,.int .i64 sg,.int .i64 ct],.int .i64 keep] w (ToldE (crashE v up x.room x.ps z.b sg ct keep) w):=by
 have GW:=zh ((((Eg.made hr hy (Below.refl _ _) up sg ct)).step (one_more _ (.cells #[.int .i64 keep] 3))).step (one_more _ (.cells #[.bool false,.int .i64 0,.slice none 0 0,.slice none 0 0,.slice none 0 0,.slice none 0 0,.slice none 0 0,.slice none 0 0,.int .i64 0,.int .i64 0,.int .i64 0] 47)))
 have KW:=zh (Bx11.made (w:=((w.alloc (.cells #[.bool up,.int .i64 x.room,.slice x.a x.ps.length x.c,.slice (some ⟨z.ga,0,none⟩) z.b.ac.length z.ca,.slice (some ⟨z.gi,0,none⟩) z.b.ic.length z.ci,.slice (some ⟨z.gb,0,none⟩) z.b.bs.length z.cb,.slice (some ⟨z.gl,0,none⟩) z.b.ls.length z.cl,.slice (some ⟨z.gt,0,none⟩) z.b.ts.length z.ct,.int .i64 z.b.lot,.int .i64 sg,.int .i64 ct] 47)).alloc (.cells #[.int .i64 keep] 3))) (base:=w.heap.size) (g:=w.heap.size+1+1) (.bool false) (.int .i64 0) (.slice none 0 0) (.slice none 0 0) (.slice none 0 0) (.slice none 0 0) (.slice none 0 0) (.slice none 0 0) (.int .i64 0) (.int .i64 0) (.int .i64 0) (by simp;omega) (by simp))
 have ws:(((w.alloc (.cells #[.bool up,.int .i64 x.room,.slice x.a x.ps.length x.c,.slice (some ⟨z.ga,0,none⟩) z.b.ac.length z.ca,.slice (some ⟨z.gi,0,none⟩) z.b.ic.length z.ci,.slice (some ⟨z.gb,0,none⟩) z.b.bs.length z.cb,.slice (some ⟨z.gl,0,none⟩) z.b.ls.length z.cl,.slice (some ⟨z.gt,0,none⟩) z.b.ts.length z.ct,.int .i64 z.b.lot,.int .i64 sg,.int .i64 ct] 47)).alloc (.cells #[.int .i64 keep] 3)).alloc (.cells #[.bool false,.int .i64 0,.slice none 0 0,.slice none 0 0,.slice none 0 0,.slice none 0 0,.slice none 0 0,.slice none 0 0,.int .i64 0,.int .i64 0,.int .i64 0] 47)).heap.size=w.heap.size+3:=by simp
 have newc:∀(W:World) (v:Value) (t:TypeId) (n:Nat),n=W.heap.size→(W.alloc (.cells #[v] t)).cell? ⟨n,0,none⟩=some v:=fun W v t n e=>by subst e;simp
 have CW0:=zh (show(((w.alloc (.cells #[.bool up,.int .i64 x.room,.slice x.a x.ps.length x.c,.slice (some ⟨z.ga,0,none⟩) z.b.ac.length z.ca,.slice (some ⟨z.gi,0,none⟩) z.b.ic.length z.ci,.slice (some ⟨z.gb,0,none⟩) z.b.bs.length z.cb,.slice (some ⟨z.gl,0,none⟩) z.b.ls.length z.cl,.slice (some ⟨z.gt,0,none⟩) z.b.ts.length z.ct,.int .i64 z.b.lot,.int .i64 sg,.int .i64 ct] 47)).alloc (.cells #[.int .i64 keep] 3)).alloc (.cells #[.bool false,.int .i64 0,.slice none 0 0,.slice none 0 0,.slice none 0 0,.slice none 0 0,.slice none 0 0,.slice none 0 0,.int .i64 0,.int .i64 0,.int .i64 0] 47)).cell? ⟨w.heap.size+1,0,none⟩=some (.int .i64 keep) from(((one_more ((w.alloc (.cells #[.bool up,.int .i64 x.room,.slice x.a x.ps.length x.c,.slice (some ⟨z.ga,0,none⟩) z.b.ac.length z.ca,.slice (some ⟨z.gi,0,none⟩) z.b.ic.length z.ci,.slice (some ⟨z.gb,0,none⟩) z.b.bs.length z.cb,.slice (some ⟨z.gl,0,none⟩) z.b.ls.length z.cl,.slice (some ⟨z.gt,0,none⟩) z.b.ts.length z.ct,.int .i64 z.b.lot,.int .i64 sg,.int .i64 ct] 47)).alloc (.cells #[.int .i64 keep] 3)) (.cells #[.bool false,.int .i64 0,.slice none 0 0,.slice none 0 0,.slice none 0 0,.slice none 0 0,.slice none 0 0,.slice none 0 0,.int .i64 0,.int .i64 0,.int .i64 0] 47)).cell (p:=⟨w.heap.size+1,0,none⟩) (by simp)).trans (newc (w.alloc (.cells #[.bool up,.int .i64 x.room,.slice x.a x.ps.length x.c,.slice (some ⟨z.ga,0,none⟩) z.b.ac.length z.ca,.slice (some ⟨z.gi,0,none⟩) z.b.ic.length z.ci,.slice (some ⟨z.gb,0,none⟩) z.b.bs.length z.cb,.slice (some ⟨z.gl,0,none⟩) z.b.ls.length z.cl,.slice (some ⟨z.gt,0,none⟩) z.b.ts.length z.ct,.int .i64 z.b.lot,.int .i64 sg,.int .i64 ct] 47)) (.int .i64 keep) 3 (w.heap.size+1) (by simp))))
 clear newc
 have hK:∀(args:Array Value) (u:World),(callFunc 55 args).run Tryz.prog u= .ok (.enter 55 args) u:=fun _ _=>IRead.enters Tryz.func55 (by kernel_rfl) rfl _ _
 have hmf:∀(fn:Fn) (first cp:Array Value) (w:World),(Instr.makeFunc fn first cp).run Tryz.prog w= .ok (.func fn first cp) w:=fun _ _ _ _=>rfl
 have HV:=zh (show v=true↔OkE up x.room x.ps z.b sg ct from hv)
 have TU:=zh (fun(W:World) (c0:W.cell? ⟨w.heap.size+1,0,none⟩=some (.int .i64 keep)) (l:w.heap.size+3≤W.heap.size) (h:RdD W x) (k:Rd W z)=>iTurnedUp W up x z sg ct vb v 55 #[.pointer (some ⟨w.heap.size+1,0,none⟩)] ((false,crashD x.room x.ps keep,⟨[],[],[],[],[],0⟩,0,0),0) h hz k hb hv hK (fun hv2 hu u g base b lg m=>iCrashDeed u base g (w.heap.size+1) true x z sg ct keep hz ((b.cell (p:=⟨w.heap.size+1,0,none⟩) (by show w.heap.size+1<W.heap.size;omega)).trans c0) m))
 have RE:crashE v up x.room x.ps z.b sg ct keep=(if v=true then(if up=true then((false,crashD x.room x.ps keep,⟨[],[],[],[],[],0⟩,0,0),0) else((up,(x.room,x.ps),z.b,sg,ct),2)) else(noE,1)):=rfl
 rw[RE]
 clear RE hr hy hb hv hz
 obtain⟨c0,c1,c2,c3,c4,c5,c6,c7,c8,c9,c10⟩:=(zu GW).k.cs
 have lt:=(zu GW).k.lt.2
 generalize (if v=true then(if up=true then((false,crashD x.room x.ps keep,⟨[],[],[],[],[],0⟩,0,0),0) else((up,(x.room,x.ps),z.b,sg,ct),2)) else(noE,1):PE×Int)=rr at *
 go_enter Tryz.func20,Tryz.ntmps20
 go_wp2_with fail
 generalize ((w.alloc (.cells #[.bool up,.int .i64 x.room,.slice x.a x.ps.length x.c,.slice (some ⟨z.ga,0,none⟩) z.b.ac.length z.ca,.slice (some ⟨z.gi,0,none⟩) z.b.ic.length z.ci,.slice (some ⟨z.gb,0,none⟩) z.b.bs.length z.cb,.slice (some ⟨z.gl,0,none⟩) z.b.ls.length z.cl,.slice (some ⟨z.gt,0,none⟩) z.b.ts.length z.ct,.int .i64 z.b.lot,.int .i64 sg,.int .i64 ct] 47)).alloc (.cells #[.int .i64 keep] 3)).alloc (.cells #[.bool false,.int .i64 0,.slice none 0 0,.slice none 0 0,.slice none 0 0,.slice none 0 0,.slice none 0 0,.slice none 0 0,.int .i64 0,.int .i64 0,.int .i64 0] 47)=W at *
 refine((zu TU) _ (zu CW0) (by omega) (zu GW).r (zu GW).rb).mono ?_
 rintro e u9 ⟨x1,y1,hx1,hy1,rfl,ox,oy,b9⟩
 have G9:=zh ((zu GW).step b9)
 have K9:=zh ((zu KW).below b9 (zu KW).lt.2)
 have OX:=zh ox
 have OY:=zh oy
 have HX:=zh hx1
 have HYY:=zh hy1
 have lk:=(zu KW).lt.2
 clear b9 ox oy hx1 hy1 TU HV
 clear c0 c1 c2 c3 c4 c5 c6 c7 c8 c9 c10 lt
 obtain⟨⟨ru,rd,rb,rs,rt⟩,rc⟩:=rr
 obtain⟨U,hU⟩:∃U,(((((((((((u9).setCell ⟨w.heap.size+1+1,0,none⟩ (.bool ru)).setCell ⟨w.heap.size+1+1,1,none⟩ (.int .i64 x1.room)).setCell ⟨w.heap.size+1+1,2,none⟩ (.slice x1.a x1.ps.length x1.c)).setCell ⟨w.heap.size+1+1,3,none⟩ (.slice y1.aa y1.b.ac.length y1.ca)).setCell ⟨w.heap.size+1+1,4,none⟩ (.slice y1.ai y1.b.ic.length y1.ci)).setCell ⟨w.heap.size+1+1,5,none⟩ (.slice y1.ab y1.b.bs.length y1.cb)).setCell ⟨w.heap.size+1+1,6,none⟩ (.slice y1.al y1.b.ls.length y1.cl)).setCell ⟨w.heap.size+1+1,7,none⟩ (.slice y1.ats y1.b.ts.length y1.ct)).setCell ⟨w.heap.size+1+1,8,none⟩ (.int .i64 y1.b.lot)).setCell ⟨w.heap.size+1+1,9,none⟩ (.int .i64 rs)).setCell ⟨w.heap.size+1+1,10,none⟩ (.int .i64 rt)=U:=⟨_,rfl⟩
 have EN:=zh (show Below w.heap.size w U∧Bx11 U w.heap.size (w.heap.size+1+1) (.bool ru) (.int .i64 x1.room) (.slice x1.a x1.ps.length x1.c) (.slice y1.aa y1.b.ac.length y1.ca) (.slice y1.ai y1.b.ic.length y1.ci) (.slice y1.ab y1.b.bs.length y1.cb) (.slice y1.al y1.b.ls.length y1.cl) (.slice y1.ats y1.b.ts.length y1.ct) (.int .i64 y1.b.lot) (.int .i64 rs) (.int .i64 rt)∧OwD U w.heap.size x1∧OwV U w.heap.size y1∧u9.grownBy U (some (w.heap.size+1+1)) from by subst hU;exact ended17 (w:=w) (x:=x1) (y:=y1) ru rs rt (zu G9).b (zu K9) (zu OX) (zu OY) (by omega))
 replace hU:=zh hU
 obtain⟨f0,f1,f2,f3,f4,f5,f6,f7,f8,f9,f10⟩:=(zu K9).fs
 obtain⟨b0,b1,b2,b3,b4,b5,b6,b7,b8,b9,b10⟩:=(zu K9).cs
 go_wp2
 clear f0 b0 f1 b1 f2 b2 f3 b3 f4 b4 f5 b5 f6 b6 f7 b7 f8 b8 f9 b9 f10 b10
 rw[zu hU]
 clear hU
 have r0:=(zu EN).2.1
 obtain⟨q0,q1,q2,q3,q4,q5,q6,q7,q8,q9,q10⟩:=r0.cs
 refine bodyPost_ret (v:= .tuple #[.agg #[.bool ru,.int .i64 x1.room,.slice x1.a x1.ps.length x1.c,.slice y1.aa y1.b.ac.length y1.ca,.slice y1.ai y1.b.ic.length y1.ci,.slice y1.ab y1.b.bs.length y1.cb,.slice y1.al y1.b.ls.length y1.cl,.slice y1.ats y1.b.ts.length y1.ct,.int .i64 y1.b.lot,.int .i64 rs,.int .i64 rt],.int .i64 rc]) (by simp[results,Tryz.results20,go_sem,q0,q1,q2,q3,q4,q5,q6,q7,q8,q9,q10]) rfl ?_
 exact⟨x1,y1,zu HX,zu HYY,rfl,(zu EN).2.2.1,(zu EN).2.2.2.1,(zu EN).1⟩
end IEngCr17
end Go.Proofs.YtlbgfdpcgpijhaaGreat
