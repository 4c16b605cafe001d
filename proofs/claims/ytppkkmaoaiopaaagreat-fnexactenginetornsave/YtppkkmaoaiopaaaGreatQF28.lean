/- Lemmas. -/
import Derived.Test.YtppkkmaoaiopaaaGreatQF25
import Derived.Test.YtppkkmaoaiopaaaGreatQF27
import Derived.Conc.MuLone
open Go.ChangeShapes Go.WideShapes Go.ChangeAt Go.RowKit
set_option linter.unusedVariables false
set_option linter.unusedSimpArgs false
set_option maxRecDepth 100000
set_option maxHeartbeats 32000000
namespace Go.Proofs.YtppkkmaoaiopaaaGreat
namespace IDo17
open Fil14 DkH14 SDk14 EBx17 EFin17 Mc17 VB13
open BMem (Bx Rd Ow)
open BHelp (Ix)
open IBalsFit (one_more)
open Bx16 (grow_grow grow_low)
open Go.MuLone (lock_free unlock_deferred)
theorem reg_sure{α:Type}{P:Program}{id:Nat}{ops:Array Oper}{K:Act→World→Prop}{Q':Exit→Act→World→Prop}{a:Act}{w:World}(f:Act→α→Act)(Fc:α→World→Prop)(h:∀x U,Fc x U→K (f a x) U)(hw:(Code.region id ops true).wp P (Exit.then (fun a' w'=>∃x,a'=f a x∧Fc x w') (fun _ _ _=>False)) a w):(Code.region id ops true).wp P (Exit.then K Q') a w:=
 Code.wp_mono (fun e a' w' hq=>by
  cases e
  case normal=>
   obtain⟨x,rfl,hx⟩:=hq
   exact h x w' hx
  all_goals exact hq.elim) hw
theorem iBooksCopied(w:World)(y:Ix)(h:BkI w y):Calls Tryz.prog 143 #[.agg #[.slice y.aa y.b.ac.length y.ca,.slice y.ai y.b.ic.length y.ci,.slice y.ab y.b.bs.length y.cb,.slice y.al y.b.ls.length y.cl,.slice y.ats y.b.ts.length y.ct,.int .i64 y.b.lot]] w fun e w'=>∃z:Bx,z.b=y.b∧e= .returned (.agg #[.slice (some ⟨z.ga,0,none⟩) z.b.ac.length z.ca,.slice (some ⟨z.gi,0,none⟩) z.b.ic.length z.ci,.slice (some ⟨z.gb,0,none⟩) z.b.bs.length z.cb,.slice (some ⟨z.gl,0,none⟩) z.b.ls.length z.cl,.slice (some ⟨z.gt,0,none⟩) z.b.ts.length z.ct,.int .i64 z.b.lot])∧Ow w' w.heap.size z∧Below w.heap.size w w':=by
 refine ICopiedI17.iCopiedI w y ?_
 rcases h with⟨z,rfl,h⟩|rfl
 ·exact⟨.inl ⟨z.ga,rfl,h.la,h.ra,h.na⟩,.inl ⟨z.gi,rfl,h.li,h.ri,h.ni⟩,.inl ⟨z.gb,rfl,h.lb,h.rb,h.nb⟩,.inl ⟨z.gl,rfl,h.ll,h.rl,h.nl⟩,.inl ⟨z.gt,rfl,h.lt,h.rt,h.nt⟩⟩
 ·exact⟨.inr ⟨rfl,rfl,rfl⟩,.inr ⟨rfl,rfl,rfl⟩,.inr ⟨rfl,rfl,rfl⟩,.inr ⟨rfl,rfl,rfl⟩,.inr ⟨rfl,rfl,rfl⟩⟩
theorem iDo(w:World)(base g K:Nat)(caps:Array Value)(up:Bool)(x:Dx)(y:Ix)(sg ct:Int)(r:PE×Int)(hm:Mc w base g 0 up x y sg ct)
  (hK:∀(args:Array Value) (u:World),(callFunc K args).run Tryz.prog u= .ok (.enter K args) u)
  (D:∀u,w.grownBy u (some g)→Mc u base g 1 up x y sg ct→Calls Tryz.prog K (#[.pointer (some ⟨g,0,none⟩)]++caps) u (DeedTo r u base g)):
  Calls Tryz.prog 111 #[.pointer (some ⟨g,0,none⟩),.func (.func K) #[] caps] w (DoTo r w g):=by
 have HD:=zh D
 have LG:=zh (show g<w.heap.size from hm.k.lt.2)
 have K0:=zh (Bx11.made (w:=w) (base:=w.heap.size) (g:=w.heap.size) (.bool false) (.int .i64 0) (.slice none 0 0) (.slice none 0 0) (.slice none 0 0) (.slice none 0 0) (.slice none 0 0) (.slice none 0 0) (.int .i64 0) (.int .i64 0) (.int .i64 0) (Nat.le_refl _) rfl)
 have b0:=one_more w (.cells #[.bool false,.int .i64 0,.slice none 0 0,.slice none 0 0,.slice none 0 0,.slice none 0 0,.slice none 0 0,.slice none 0 0,.int .i64 0,.int .i64 0,.int .i64 0] 46)
 have M0:=zh (hm.step b0)
 have G0:=zh (grow_below (grow_refl w (some g)) b0)
 clear hm D b0
 go_enter_defers Tryz.func111,Tryz.ntmps111
 go_wp2_with fail
 generalize w.alloc (.cells #[.bool false,.int .i64 0,.slice none 0 0,.slice none 0 0,.slice none 0 0,.slice none 0 0,.slice none 0 0,.slice none 0 0,.int .i64 0,.int .i64 0,.int .i64 0] 46)=W at *
 refine(lock_free Locks17.muLib ⟨g,0,none⟩ _ (zu M0).k.c0 ((zu M0).k.free 0)).mono ?_
 rintro e w1 ⟨rfl,rfl⟩
 have ms:=(zu M0).k.set0 (.int .i32 1)
 have M1:=zh ((zu M0).turn ms.2 ms.1)
 have G1:=zh (grow_grow (zu G0) ms.2)
 have K1:=zh ((zu K0).kept ms.2 (by have:=zu LG;simp;omega))
 clear ms M0 G0 K0
 generalize W.setCell ⟨g,0,none⟩ (.int .i32 1)=U at *
 go_wp2_with fail
 refine((zu HD) _ (zu G1) (zu M1)).mono ?_
 rintro e u1 ⟨x1,y1,hx,hy,rfl,m1,g1⟩
 have RX:=zh m1.rx
 have RY:=zh m1.ry
 have GR:=zh (grow_grow (zu G1) g1)
 have KB:=zh ((zu K1).kept g1 (by have:=zu LG;simp;omega))
 have M:=zh m1.k
 have HX:=zh hx
 have HYY:=zh hy
 clear hx hy m1 g1 M1 G1 K1 HD
 obtain⟨⟨ru,rd,rb,rs,rt⟩,rc⟩:=r
 simp only at *
 go_wp2_with fail
 refine reg_sure (α:=Dx×Bx) (fun a x0=>(((((((((((((((((((((((((((((a.put (some 17) (.pointer (some ⟨g,0,none⟩))).put (some 18) (.pointer (some ⟨g,0,none⟩))).put (some 19) (.pointer (some ⟨g,4,none⟩))).put (some 20) (.bool ru)).put (some 21) (.pointer (some ⟨g,0,none⟩))).put (some 22) (.pointer (some ⟨g,0,none⟩))).put (some 23) (.pointer (some ⟨g,2,none⟩))).put (some 24) (.agg #[.int .i64 x1.room,.slice x1.a x1.ps.length x1.c])).put (some 25) (.agg #[.int .i64 x0.1.room,.slice x0.1.a x0.1.ps.length x0.1.c])).put (some 26) (.pointer (some ⟨g,0,none⟩))).put (some 27) (.pointer (some ⟨g,0,none⟩))).put (some 28) (.pointer (some ⟨g,5,none⟩))).put (some 29) (.agg #[.slice y1.aa y1.b.ac.length y1.ca,.slice y1.ai y1.b.ic.length y1.ci,.slice y1.ab y1.b.bs.length y1.cb,.slice y1.al y1.b.ls.length y1.cl,.slice y1.ats y1.b.ts.length y1.ct,.int .i64 y1.b.lot])).put (some 30) (.agg #[.slice (some ⟨x0.2.ga,0,none⟩) x0.2.b.ac.length x0.2.ca,.slice (some ⟨x0.2.gi,0,none⟩) x0.2.b.ic.length x0.2.ci,.slice (some ⟨x0.2.gb,0,none⟩) x0.2.b.bs.length x0.2.cb,.slice (some ⟨x0.2.gl,0,none⟩) x0.2.b.ls.length x0.2.cl,.slice (some ⟨x0.2.gt,0,none⟩) x0.2.b.ts.length x0.2.ct,.int .i64 x0.2.b.lot])).put (some 31) (.pointer (some ⟨g,0,none⟩))).put (some 32) (.pointer (some ⟨g,0,none⟩))).put (some 33) (.pointer (some ⟨g,11,none⟩))).put (some 34) (.int .i64 rs)).put (some 35) (.pointer (some ⟨g,0,none⟩))).put (some 36) (.pointer (some ⟨g,0,none⟩))).put (some 37) (.pointer (some ⟨g,12,none⟩))).put (some 38) (.int .i64 rt)).put (some 39) (.int .i64 rc)).put (some 40) (.pointer (some ⟨w.heap.size,0,none⟩))).put (some 41) (.pointer (some ⟨w.heap.size,1,none⟩))).put (some 42) (.pointer (some ⟨w.heap.size,3,none⟩))).put (some 43) (.pointer (some ⟨w.heap.size,9,none⟩))).put (some 44) (.pointer (some ⟨w.heap.size,10,none⟩))).put (some 5) (.int .i64 rc))) (fun(x0:Dx×Bx) U=>Hid (Bx13 U base g (.int .i32 1) (.int .u32 0) (.int .i64 x1.room) (.slice x1.a x1.ps.length x1.c) (.bool ru) (.slice y1.aa y1.b.ac.length y1.ca) (.slice y1.ai y1.b.ic.length y1.ci) (.slice y1.ab y1.b.bs.length y1.cb) (.slice y1.al y1.b.ls.length y1.cl) (.slice y1.ats y1.b.ts.length y1.ct) (.int .i64 y1.b.lot) (.int .i64 rs) (.int .i64 rt)∧Bx11 U w.heap.size w.heap.size (.bool ru) (.int .i64 x0.1.room) (.slice x0.1.a x0.1.ps.length x0.1.c) (.slice (some ⟨x0.2.ga,0,none⟩) x0.2.b.ac.length x0.2.ca) (.slice (some ⟨x0.2.gi,0,none⟩) x0.2.b.ic.length x0.2.ci) (.slice (some ⟨x0.2.gb,0,none⟩) x0.2.b.bs.length x0.2.cb) (.slice (some ⟨x0.2.gl,0,none⟩) x0.2.b.ls.length x0.2.cl) (.slice (some ⟨x0.2.gt,0,none⟩) x0.2.b.ts.length x0.2.ct) (.int .i64 x0.2.b.lot) (.int .i64 rs) (.int .i64 rt)∧w.grownBy U (some g)∧OwD U (w.heap.size+1) x0.1∧OwV U (w.heap.size+1) (ixB x0.2)∧(x0.1.room,x0.1.ps)=(x1.room,x1.ps)∧x0.2.b=y1.b)) ?_ ?_
 ·rintro⟨x2,z2⟩ U2 hf
  have M:=zh (zu hf).1
  have KB:=zh (zu hf).2.1
  have GR:=zh (zu hf).2.2.1
  have OX:=zh (zu hf).2.2.2.1
  have OZ:=zh (zu hf).2.2.2.2.1
  have XE:=zh (zu hf).2.2.2.2.2.1
  have ZE:=zh (zu hf).2.2.2.2.2.2
  clear hf
  simp only at KB OX OZ XE ZE
  try simp only[Act.put,zA,zB,zC]
  go_wp2
  refine leaves_cons (f:=142) (args:= #[.pointer (some ⟨g,0,none⟩)]) (by simp) (by simp[go_sem]) ?_
  refine(unlock_deferred Locks17.muLib ⟨g,0,none⟩ .returning _ (zu M).c0 ((zu M).free 0)).mono ?_
  rintro e u' w6 ⟨rfl,rfl,rfl⟩
  have ms:=(zu M).set0 (.int .i32 0)
  have ks:=(zu KB).kept ms.2 (by have:=zu LG;simp;omega)
  obtain⟨q0,q1,q2,q3,q4,q5,q6,q7,q8,q9,q10⟩:=ks.cs
  have ox:=row_base2 (row_kept2 (zu OX) ms.2 (by have:=zu LG;omega)) (show w.heap.size≤w.heap.size+1 by omega)
  have oz:=ownV_base (ownV_kept (zu OZ) ms.2 (by have:=zu LG;omega)) (show w.heap.size≤w.heap.size+1 by omega)
  have gr:=grow_grow (zu GR) ms.2
  exact⟨.tuple #[.agg #[.bool ru,.int .i64 x2.room,.slice x2.a x2.ps.length x2.c,.slice (some ⟨z2.ga,0,none⟩) z2.b.ac.length z2.ca,.slice (some ⟨z2.gi,0,none⟩) z2.b.ic.length z2.ci,.slice (some ⟨z2.gb,0,none⟩) z2.b.bs.length z2.cb,.slice (some ⟨z2.gl,0,none⟩) z2.b.ls.length z2.cl,.slice (some ⟨z2.gt,0,none⟩) z2.b.ts.length z2.ct,.int .i64 z2.b.lot,.int .i64 rs,.int .i64 rt],.int .i64 rc],by simp[results,Tryz.results111,go_sem,q0,q1,q2,q3,q4,q5,q6,q7,q8,q9,q10],x2,ixB z2,(zu XE).trans (zu HX),(zu ZE).trans (zu HYY),rfl,ox,oz,gr⟩
 ·refine wp_region_held_drew (S:=(fun w'=>w'.cell? ⟨g,2,none⟩=some (.int .i64 x1.room)∧w'.cell? ⟨g,3,none⟩=some (.slice x1.a x1.ps.length x1.c)∧w'.cell? ⟨g,4,none⟩=some (.bool ru)∧w'.cell? ⟨g,5,none⟩=some (.slice y1.aa y1.b.ac.length y1.ca)∧w'.cell? ⟨g,6,none⟩=some (.slice y1.ai y1.b.ic.length y1.ci)∧w'.cell? ⟨g,7,none⟩=some (.slice y1.ab y1.b.bs.length y1.cb)∧w'.cell? ⟨g,8,none⟩=some (.slice y1.al y1.b.ls.length y1.cl)∧w'.cell? ⟨g,9,none⟩=some (.slice y1.ats y1.b.ts.length y1.ct)∧w'.cell? ⟨g,10,none⟩=some (.int .i64 y1.b.lot)∧w'.cell? ⟨g,11,none⟩=some (.int .i64 rs)∧w'.cell? ⟨g,12,none⟩=some (.int .i64 rt))) (by kernel_rfl) ⟨(zu M).c2,(zu M).c3,(zu M).c4,(zu M).c5,(zu M).c6,(zu M).c7,(zu M).c8,(zu M).c9,(zu M).c10,(zu M).c11,(zu M).c12⟩ (fun hHeld=>?_)
  refine zT 0 17 (.pointer (some ⟨g,0,none⟩)) rfl hHeld ?_
  refine zT 1 18 (.pointer (some ⟨g,0,none⟩)) rfl hHeld ?_
  refine zT 2 19 (.pointer (some ⟨g,4,none⟩)) rfl hHeld ?_
  refine zT 3 20 (.bool ru) rfl hHeld ?_
  refine zT 4 21 (.pointer (some ⟨g,0,none⟩)) rfl hHeld ?_
  refine zT 5 22 (.pointer (some ⟨g,0,none⟩)) rfl hHeld ?_
  refine zT 6 23 (.pointer (some ⟨g,2,none⟩)) rfl hHeld ?_
  refine zT 7 24 (.agg #[.int .i64 x1.room,.slice x1.a x1.ps.length x1.c]) rfl hHeld ?_
  refine zT 9 26 (.pointer (some ⟨g,0,none⟩)) rfl hHeld ?_
  refine zT 10 27 (.pointer (some ⟨g,0,none⟩)) rfl hHeld ?_
  refine zT 11 28 (.pointer (some ⟨g,5,none⟩)) rfl hHeld ?_
  refine zT 12 29 (.agg #[.slice y1.aa y1.b.ac.length y1.ca,.slice y1.ai y1.b.ic.length y1.ci,.slice y1.ab y1.b.bs.length y1.cb,.slice y1.al y1.b.ls.length y1.cl,.slice y1.ats y1.b.ts.length y1.ct,.int .i64 y1.b.lot]) rfl hHeld ?_
  refine zT 14 31 (.pointer (some ⟨g,0,none⟩)) rfl hHeld ?_
  refine zT 15 32 (.pointer (some ⟨g,0,none⟩)) rfl hHeld ?_
  refine zT 16 33 (.pointer (some ⟨g,11,none⟩)) rfl hHeld ?_
  refine zT 17 34 (.int .i64 rs) rfl hHeld ?_
  refine zT 18 35 (.pointer (some ⟨g,0,none⟩)) rfl hHeld ?_
  refine zT 19 36 (.pointer (some ⟨g,0,none⟩)) rfl hHeld ?_
  refine zT 20 37 (.pointer (some ⟨g,12,none⟩)) rfl hHeld ?_
  refine zT 21 38 (.int .i64 rt) rfl hHeld ?_
  refine zT 22 39 (.int .i64 rc) rfl hHeld ?_
  try simp only[Act.put,zA,zB,zC]
  refine zR 8 rfl (fun K hK=>?_)
  go_simp
  go_wp2_with fail
  refine(ICp14.iCopied _ x1 ((zu RX).below (Below.refl _ _).drew)).mono ?_
  rintro e v1 ⟨x2,xr,xp,rfl,ox,b6⟩
  have b7:Below u1.heap.size u1 v1:=⟨b6.os,b6.tape,b6.output,b6.size,b6.block⟩
  have l1:=(zu KB).lt.2
  have XE:=zh (And.intro xr xp)
  have OX:=zh (show OwD v1 (w.heap.size+1) x2 from row_base2 ox (by show w.heap.size+1≤u1.heap.size;omega))
  replace M:=zh ((zu M).below b7 (zu M).lt.2)
  replace KB:=zh ((zu KB).below b7 (zu KB).lt.2)
  replace GR:=zh (grow_below (zu GR) b7)
  replace RY:=zh ((zu RY).below b7)
  clear b6 b7 ox xr xp l1 RX
  go_wp2_with fail
  refine hK.out _ _ ⟨(zu M).c2,(zu M).c3,(zu M).c4,(zu M).c5,(zu M).c6,(zu M).c7,(zu M).c8,(zu M).c9,(zu M).c10,(zu M).c11,(zu M).c12⟩ (fun hHeld=>?_)
  clear hK K
  try simp only[Act.put,zA,zB,zC]
  refine zR 13 rfl (fun K hK=>?_)
  go_simp
  go_wp2_with fail
  refine(iBooksCopied _ y1 (zu RY)).mono ?_
  rintro e v2 ⟨z2,zb,rfl,oz,b7⟩
  have l1:=(zu KB).lt.2
  have ZE:=zh zb
  have OZ:=zh (show OwV v2 (w.heap.size+1) (ixB z2) from ownV_base (SEngCp17.ow_ix oz) (by omega))
  replace M:=zh ((zu M).below b7 (zu M).lt.2)
  replace KB:=zh ((zu KB).below b7 (zu KB).lt.2)
  replace GR:=zh (grow_below (zu GR) b7)
  replace OX:=zh ((zu OX).step b7)
  clear b7 oz zb l1 RY
  go_wp2_with fail
  refine hK.out _ _ ⟨(zu M).c2,(zu M).c3,(zu M).c4,(zu M).c5,(zu M).c6,(zu M).c7,(zu M).c8,(zu M).c9,(zu M).c10,(zu M).c11,(zu M).c12⟩ (fun hHeld=>?_)
  clear hK K
  try simp only[Act.put,zA,zB,zC]
  have s0:=(zu KB).set0 (.bool false)
  have s1:=s0.1.set1 (.int .i64 0)
  have s2:=s1.1.set2 (.slice none 0 0)
  have s3:=s2.1.set3 (.slice none 0 0)
  have s4:=s3.1.set4 (.slice none 0 0)
  have s5:=s4.1.set5 (.slice none 0 0)
  have s6:=s5.1.set6 (.slice none 0 0)
  have s7:=s6.1.set7 (.slice none 0 0)
  have s8:=s7.1.set8 (.int .i64 0)
  have s9:=s8.1.set9 (.int .i64 0)
  have s10:=s9.1.set10 (.int .i64 0)
  have gs:=(grow_grow (grow_grow (grow_grow (grow_grow (grow_grow (grow_grow (grow_grow (grow_grow (grow_grow (grow_grow s0.2 s1.2) s2.2) s3.2) s4.2) s5.2) s6.2) s7.2) s8.2) s9.2) s10.2)
  have KN:=zh s10.1
  have MN:=zh ((zu M).kept gs (by have:=(zu LG);simp;omega))
  have GN:=zh (grow_new (zu GR) gs (Nat.le_refl _))
  have XN:=zh (show OwD _ (w.heap.size+1) x2 from row_kept2 (zu OX) gs (by omega))
  have ZN:=zh (ownV_kept (zu OZ) gs (by omega))
  obtain⟨f0,f1,f2,f3,f4,f5,f6,f7,f8,f9,f10⟩:=(zu KB).fs
  obtain⟨b0,b1,b2,b3,b4,b5,b6,b7,b8,b9,b10⟩:=(zu KB).cs
  clear gs s0 s1 s2 s3 s4 s5 s6 s7 s8 s9 s10
  refine zR 23 rfl (fun K hK=>?_)
  go_simp
  refine hK.out _ _ ⟨(zu MN).c2,(zu MN).c3,(zu MN).c4,(zu MN).c5,(zu MN).c6,(zu MN).c7,(zu MN).c8,(zu MN).c9,(zu MN).c10,(zu MN).c11,(zu MN).c12⟩ (fun hHeld=>?_)
  clear hK K
  try simp only[Act.put,zA,zB,zC]
  generalize (((((((((((v2).setCell ⟨w.heap.size,0,none⟩ (.bool false)).setCell ⟨w.heap.size,1,none⟩ (.int .i64 0)).setCell ⟨w.heap.size,2,none⟩ (.slice none 0 0)).setCell ⟨w.heap.size,3,none⟩ (.slice none 0 0)).setCell ⟨w.heap.size,4,none⟩ (.slice none 0 0)).setCell ⟨w.heap.size,5,none⟩ (.slice none 0 0)).setCell ⟨w.heap.size,6,none⟩ (.slice none 0 0)).setCell ⟨w.heap.size,7,none⟩ (.slice none 0 0)).setCell ⟨w.heap.size,8,none⟩ (.int .i64 0)).setCell ⟨w.heap.size,9,none⟩ (.int .i64 0)).setCell ⟨w.heap.size,10,none⟩ (.int .i64 0)=p0 at *
  clear KB M GR OX OZ f0 b0 f1 b1 f2 b2 f3 b3 f4 b4 f5 b5 f6 b6 f7 b7 f8 b8 f9 b9 f10 b10
  have KB:=KN
  have M:=MN
  have GR:=GN
  have OX:=XN
  have OZ:=ZN
  clear KN MN GN XN ZN
  refine zT 24 40 (.pointer (some ⟨w.heap.size,0,none⟩)) rfl hHeld ?_
  try simp only[Act.put,zA,zB,zC]
  have s0:=(zu KB).set0 (.bool ru)
  have gs:=s0.2
  have KN:=zh s0.1
  have MN:=zh ((zu M).kept gs (by have:=(zu LG);simp;omega))
  have GN:=zh (grow_new (zu GR) gs (Nat.le_refl _))
  have XN:=zh (show OwD _ (w.heap.size+1) x2 from row_kept2 (zu OX) gs (by omega))
  have ZN:=zh (ownV_kept (zu OZ) gs (by omega))
  have f0:=(zu KB).free 0
  have b0:=(zu KB).c0
  clear gs s0
  refine zR 25 rfl (fun K hK=>?_)
  go_simp
  refine hK.out _ _ ⟨(zu MN).c2,(zu MN).c3,(zu MN).c4,(zu MN).c5,(zu MN).c6,(zu MN).c7,(zu MN).c8,(zu MN).c9,(zu MN).c10,(zu MN).c11,(zu MN).c12⟩ (fun hHeld=>?_)
  clear hK K
  try simp only[Act.put,zA,zB,zC]
  generalize (p0).setCell ⟨w.heap.size,0,none⟩ (.bool ru)=p1 at *
  clear KB M GR OX OZ f0 b0
  have KB:=KN
  have M:=MN
  have GR:=GN
  have OX:=XN
  have OZ:=ZN
  clear KN MN GN XN ZN
  refine zT 26 41 (.pointer (some ⟨w.heap.size,1,none⟩)) rfl hHeld ?_
  try simp only[Act.put,zA,zB,zC]
  have s0:=(zu KB).set1 (.int .i64 x2.room)
  have s1:=s0.1.set2 (.slice x2.a x2.ps.length x2.c)
  have gs:=(grow_grow s0.2 s1.2)
  have KN:=zh s1.1
  have MN:=zh ((zu M).kept gs (by have:=(zu LG);simp;omega))
  have GN:=zh (grow_new (zu GR) gs (Nat.le_refl _))
  have XN:=zh (show OwD _ (w.heap.size+1) x2 from row_kept2 (zu OX) gs (by omega))
  have ZN:=zh (ownV_kept (zu OZ) gs (by omega))
  have f1:=(zu KB).free 1
  have b1:=(zu KB).c1
  have f2:=(zu KB).free 2
  have b2:=(zu KB).c2
  clear gs s0 s1
  refine zR 27 rfl (fun K hK=>?_)
  go_simp
  refine hK.out _ _ ⟨(zu MN).c2,(zu MN).c3,(zu MN).c4,(zu MN).c5,(zu MN).c6,(zu MN).c7,(zu MN).c8,(zu MN).c9,(zu MN).c10,(zu MN).c11,(zu MN).c12⟩ (fun hHeld=>?_)
  clear hK K
  try simp only[Act.put,zA,zB,zC]
  generalize ((p1).setCell ⟨w.heap.size,1,none⟩ (.int .i64 x2.room)).setCell ⟨w.heap.size,2,none⟩ (.slice x2.a x2.ps.length x2.c)=p2 at *
  clear KB M GR OX OZ f1 b1 f2 b2
  have KB:=KN
  have M:=MN
  have GR:=GN
  have OX:=XN
  have OZ:=ZN
  clear KN MN GN XN ZN
  refine zT 28 42 (.pointer (some ⟨w.heap.size,3,none⟩)) rfl hHeld ?_
  try simp only[Act.put,zA,zB,zC]
  have s0:=(zu KB).set3 (.slice (some ⟨z2.ga,0,none⟩) z2.b.ac.length z2.ca)
  have s1:=s0.1.set4 (.slice (some ⟨z2.gi,0,none⟩) z2.b.ic.length z2.ci)
  have s2:=s1.1.set5 (.slice (some ⟨z2.gb,0,none⟩) z2.b.bs.length z2.cb)
  have s3:=s2.1.set6 (.slice (some ⟨z2.gl,0,none⟩) z2.b.ls.length z2.cl)
  have s4:=s3.1.set7 (.slice (some ⟨z2.gt,0,none⟩) z2.b.ts.length z2.ct)
  have s5:=s4.1.set8 (.int .i64 z2.b.lot)
  have gs:=(grow_grow (grow_grow (grow_grow (grow_grow (grow_grow s0.2 s1.2) s2.2) s3.2) s4.2) s5.2)
  have KN:=zh s5.1
  have MN:=zh ((zu M).kept gs (by have:=(zu LG);simp;omega))
  have GN:=zh (grow_new (zu GR) gs (Nat.le_refl _))
  have XN:=zh (show OwD _ (w.heap.size+1) x2 from row_kept2 (zu OX) gs (by omega))
  have ZN:=zh (ownV_kept (zu OZ) gs (by omega))
  have f3:=(zu KB).free 3
  have b3:=(zu KB).c3
  have f4:=(zu KB).free 4
  have b4:=(zu KB).c4
  have f5:=(zu KB).free 5
  have b5:=(zu KB).c5
  have f6:=(zu KB).free 6
  have b6:=(zu KB).c6
  have f7:=(zu KB).free 7
  have b7:=(zu KB).c7
  have f8:=(zu KB).free 8
  have b8:=(zu KB).c8
  clear gs s0 s1 s2 s3 s4 s5
  refine zR 29 rfl (fun K hK=>?_)
  go_simp
  refine hK.out _ _ ⟨(zu MN).c2,(zu MN).c3,(zu MN).c4,(zu MN).c5,(zu MN).c6,(zu MN).c7,(zu MN).c8,(zu MN).c9,(zu MN).c10,(zu MN).c11,(zu MN).c12⟩ (fun hHeld=>?_)
  clear hK K
  try simp only[Act.put,zA,zB,zC]
  generalize ((((((p2).setCell ⟨w.heap.size,3,none⟩ (.slice (some ⟨z2.ga,0,none⟩) z2.b.ac.length z2.ca)).setCell ⟨w.heap.size,4,none⟩ (.slice (some ⟨z2.gi,0,none⟩) z2.b.ic.length z2.ci)).setCell ⟨w.heap.size,5,none⟩ (.slice (some ⟨z2.gb,0,none⟩) z2.b.bs.length z2.cb)).setCell ⟨w.heap.size,6,none⟩ (.slice (some ⟨z2.gl,0,none⟩) z2.b.ls.length z2.cl)).setCell ⟨w.heap.size,7,none⟩ (.slice (some ⟨z2.gt,0,none⟩) z2.b.ts.length z2.ct)).setCell ⟨w.heap.size,8,none⟩ (.int .i64 z2.b.lot)=p3 at *
  clear KB M GR OX OZ f3 b3 f4 b4 f5 b5 f6 b6 f7 b7 f8 b8
  have KB:=KN
  have M:=MN
  have GR:=GN
  have OX:=XN
  have OZ:=ZN
  clear KN MN GN XN ZN
  refine zT 30 43 (.pointer (some ⟨w.heap.size,9,none⟩)) rfl hHeld ?_
  try simp only[Act.put,zA,zB,zC]
  have s0:=(zu KB).set9 (.int .i64 rs)
  have gs:=s0.2
  have KN:=zh s0.1
  have MN:=zh ((zu M).kept gs (by have:=(zu LG);simp;omega))
  have GN:=zh (grow_new (zu GR) gs (Nat.le_refl _))
  have XN:=zh (show OwD _ (w.heap.size+1) x2 from row_kept2 (zu OX) gs (by omega))
  have ZN:=zh (ownV_kept (zu OZ) gs (by omega))
  have f9:=(zu KB).free 9
  have b9:=(zu KB).c9
  clear gs s0
  refine zR 31 rfl (fun K hK=>?_)
  go_simp
  refine hK.out _ _ ⟨(zu MN).c2,(zu MN).c3,(zu MN).c4,(zu MN).c5,(zu MN).c6,(zu MN).c7,(zu MN).c8,(zu MN).c9,(zu MN).c10,(zu MN).c11,(zu MN).c12⟩ (fun hHeld=>?_)
  clear hK K
  try simp only[Act.put,zA,zB,zC]
  generalize (p3).setCell ⟨w.heap.size,9,none⟩ (.int .i64 rs)=p4 at *
  clear KB M GR OX OZ f9 b9
  have KB:=KN
  have M:=MN
  have GR:=GN
  have OX:=XN
  have OZ:=ZN
  clear KN MN GN XN ZN
  refine zT 32 44 (.pointer (some ⟨w.heap.size,10,none⟩)) rfl hHeld ?_
  try simp only[Act.put,zA,zB,zC]
  have s0:=(zu KB).set10 (.int .i64 rt)
  have gs:=s0.2
  have KN:=zh s0.1
  have MN:=zh ((zu M).kept gs (by have:=(zu LG);simp;omega))
  have GN:=zh (grow_new (zu GR) gs (Nat.le_refl _))
  have XN:=zh (show OwD _ (w.heap.size+1) x2 from row_kept2 (zu OX) gs (by omega))
  have ZN:=zh (ownV_kept (zu OZ) gs (by omega))
  have f10:=(zu KB).free 10
  have b10:=(zu KB).c10
  clear gs s0
  refine zR 33 rfl (fun K hK=>?_)
  go_simp
  refine hK.out _ _ ⟨(zu MN).c2,(zu MN).c3,(zu MN).c4,(zu MN).c5,(zu MN).c6,(zu MN).c7,(zu MN).c8,(zu MN).c9,(zu MN).c10,(zu MN).c11,(zu MN).c12⟩ (fun hHeld=>?_)
  clear hK K
  try simp only[Act.put,zA,zB,zC]
  generalize (p4).setCell ⟨w.heap.size,10,none⟩ (.int .i64 rt)=p5 at *
  clear KB M GR OX OZ f10 b10
  have KB:=KN
  have M:=MN
  have GR:=GN
  have OX:=XN
  have OZ:=ZN
  clear KN MN GN XN ZN
  refine zT 34 5 (.int .i64 rc) rfl hHeld ?_
  try simp only[Act.put,zA,zB,zC]
  refine wpAnyH_done (by kernel_rfl) ?_ _
  exact⟨(x2,z2),rfl,zh ⟨zu M,zu KB,zu GR,zu OX,zu OZ,by rw[(zu XE).1,(zu XE).2],zu ZE⟩⟩
end IDo17
namespace ITurn17
open Fil14 OpensF14 DiskH14 DkH14 SDk14 SOk14 EBx17 EFin17 SEngOk17 Mc17 VB13
open BMem (Bx Rd Ow)
open Bks (Bk Ok)
open BHelp (Ix)
open Lots (Says)
open Bx16 (grow_grow grow_low)
theorem Mc.begun{u:World}{base:Nat}{x:Dx}{z:Bx}(hr:RdD u x)(hy:Rd u z)(hb:base≤u.heap.size)(up:Bool)(sg ct:Int):Mc (u.alloc (.cells #[.int .i32 0,.int .u32 0,.int .i64 x.room,.slice x.a x.ps.length x.c,.bool up,.slice (some ⟨z.ga,0,none⟩) z.b.ac.length z.ca,.slice (some ⟨z.gi,0,none⟩) z.b.ic.length z.ci,.slice (some ⟨z.gb,0,none⟩) z.b.bs.length z.cb,.slice (some ⟨z.gl,0,none⟩) z.b.ls.length z.cl,.slice (some ⟨z.gt,0,none⟩) z.b.ts.length z.ct,.int .i64 z.b.lot,.int .i64 sg,.int .i64 ct] 109)) base u.heap.size 0 up x (ixB z) sg ct:=
 ⟨Bx13.made _ _ _ _ _ _ _ _ _ _ _ _ _ hb rfl,fun W' k=>by
  have b:Below u.heap.size u W':=grow_low (one_more u _) k ⟨Nat.le_refl _,by simp⟩
  exact⟨hr.below b,.inl ⟨z,rfl,hy.below b⟩⟩⟩
theorem iTurned(w:World)(up:Bool)(x:Dx)(z:Bx)(sg ct:Int)(vb v:Bool)(K:Nat)(caps:Array Value)(r:PE×Int)(hr:RdD w x)(hz:sumZ x.ps≤1048576)(hy:Rd w z)(hb:Says vb (Ok z.b))(hv:Says v (OkE up x.room x.ps z.b sg ct))(hK:∀(args:Array Value) (u:World),(callFunc K args).run Tryz.prog u= .ok (.enter K args) u)
  (D:v=true→∀(u:World) (g base:Nat),Below w.heap.size w u→w.heap.size≤g→Mc u base g 1 up x (ixB z) sg ct→Calls Tryz.prog K (#[.pointer (some ⟨g,0,none⟩)]++caps) u (DeedTo r u base g)):
  Calls Tryz.prog 58 #[.agg #[.bool up,.int .i64 x.room,.slice x.a x.ps.length x.c,.slice (some ⟨z.ga,0,none⟩) z.b.ac.length z.ca,.slice (some ⟨z.gi,0,none⟩) z.b.ic.length z.ci,.slice (some ⟨z.gb,0,none⟩) z.b.bs.length z.cb,.slice (some ⟨z.gl,0,none⟩) z.b.ls.length z.cl,.slice (some ⟨z.gt,0,none⟩) z.b.ts.length z.ct,.int .i64 z.b.lot,.int .i64 sg,.int .i64 ct],.func (.func K) #[] caps] w (ToldE (if v=true then r else(noE,1)) w):=by
 have GW:=zh ((Eg.made hr hy (Below.refl _ _) up sg ct).step (one_more _ (.cells #[.bool false,.int .i64 0,.slice none 0 0,.slice none 0 0,.slice none 0 0,.slice none 0 0,.slice none 0 0,.slice none 0 0,.int .i64 0,.int .i64 0,.int .i64 0] 46)))
 have KW:=zh (Bx11.made (w:=w.alloc (.cells #[.bool up,.int .i64 x.room,.slice x.a x.ps.length x.c,.slice (some ⟨z.ga,0,none⟩) z.b.ac.length z.ca,.slice (some ⟨z.gi,0,none⟩) z.b.ic.length z.ci,.slice (some ⟨z.gb,0,none⟩) z.b.bs.length z.cb,.slice (some ⟨z.gl,0,none⟩) z.b.ls.length z.cl,.slice (some ⟨z.gt,0,none⟩) z.b.ts.length z.ct,.int .i64 z.b.lot,.int .i64 sg,.int .i64 ct] 46)) (base:=w.heap.size) (g:=w.heap.size+1) (.bool false) (.int .i64 0) (.slice none 0 0) (.slice none 0 0) (.slice none 0 0) (.slice none 0 0) (.slice none 0 0) (.slice none 0 0) (.int .i64 0) (.int .i64 0) (.int .i64 0) (by simp) (by simp))
 have ws:((w.alloc (.cells #[.bool up,.int .i64 x.room,.slice x.a x.ps.length x.c,.slice (some ⟨z.ga,0,none⟩) z.b.ac.length z.ca,.slice (some ⟨z.gi,0,none⟩) z.b.ic.length z.ci,.slice (some ⟨z.gb,0,none⟩) z.b.bs.length z.cb,.slice (some ⟨z.gl,0,none⟩) z.b.ls.length z.cl,.slice (some ⟨z.gt,0,none⟩) z.b.ts.length z.ct,.int .i64 z.b.lot,.int .i64 sg,.int .i64 ct] 46)).alloc (.cells #[.bool false,.int .i64 0,.slice none 0 0,.slice none 0 0,.slice none 0 0,.slice none 0 0,.slice none 0 0,.slice none 0 0,.int .i64 0,.int .i64 0,.int .i64 0] 46)).heap.size=w.heap.size+2:=by simp
 have EO:=zh (fun u (h:RdD u x) (k:Rd u z)=>IEngOk17.iEngineOk u up x z sg ct vb v h hz k hb hv)
 have HD:=zh D
 have HR:=zh hr
 have HY:=zh hy
 obtain⟨rr,hrr⟩:∃rr,(if v=true then r else(noE,1))=rr:=⟨_,rfl⟩
 rw[hrr]
 have RE:=zh hrr
 clear hr hy hb hv hz D hrr
 obtain⟨c0,c1,c2,c3,c4,c5,c6,c7,c8,c9,c10⟩:=(zu GW).k.cs
 have lt:=(zu GW).k.lt.2
 go_enter Tryz.func58,Tryz.ntmps58
 go_wp2_with fail
 generalize (w.alloc (.cells #[.bool up,.int .i64 x.room,.slice x.a x.ps.length x.c,.slice (some ⟨z.ga,0,none⟩) z.b.ac.length z.ca,.slice (some ⟨z.gi,0,none⟩) z.b.ic.length z.ci,.slice (some ⟨z.gb,0,none⟩) z.b.bs.length z.cb,.slice (some ⟨z.gl,0,none⟩) z.b.ls.length z.cl,.slice (some ⟨z.gt,0,none⟩) z.b.ts.length z.ct,.int .i64 z.b.lot,.int .i64 sg,.int .i64 ct] 46)).alloc (.cells #[.bool false,.int .i64 0,.slice none 0 0,.slice none 0 0,.slice none 0 0,.slice none 0 0,.slice none 0 0,.slice none 0 0,.int .i64 0,.int .i64 0,.int .i64 0] 46)=W at *
 refine(zu EO _ (zu GW).r (zu GW).rb).mono ?_
 rintro e u ⟨rfl,b1⟩
 have G1:=zh ((zu GW).step b1)
 have K1:=zh ((zu KW).below b1 (zu KW).lt.2)
 have us:=b1.size
 rw[ws] at us
 clear b1 GW KW EO ws
 clear c0 c1 c2 c3 c4 c5 c6 c7 c8 c9 c10 lt
 cases v with
 |false=>
  have E:=zh (show rr=(noE,1) by rw[←zu RE,if_neg (show ¬(false=true) by simp)])
  clear RE HD HR HY
  obtain⟨U,hU⟩:∃U,(((((((((((u).setCell ⟨w.heap.size+1,0,none⟩ (.bool false)).setCell ⟨w.heap.size+1,1,none⟩ (.int .i64 0)).setCell ⟨w.heap.size+1,2,none⟩ (.slice none 0 0)).setCell ⟨w.heap.size+1,3,none⟩ (.slice none 0 0)).setCell ⟨w.heap.size+1,4,none⟩ (.slice none 0 0)).setCell ⟨w.heap.size+1,5,none⟩ (.slice none 0 0)).setCell ⟨w.heap.size+1,6,none⟩ (.slice none 0 0)).setCell ⟨w.heap.size+1,7,none⟩ (.slice none 0 0)).setCell ⟨w.heap.size+1,8,none⟩ (.int .i64 0)).setCell ⟨w.heap.size+1,9,none⟩ (.int .i64 0)).setCell ⟨w.heap.size+1,10,none⟩ (.int .i64 0)=U:=⟨_,rfl⟩
  have EN:=zh (show Below w.heap.size w U∧Bx11 U w.heap.size (w.heap.size+1) (.bool false) (.int .i64 0) (.slice none 0 0) (.slice none 0 0) (.slice none 0 0) (.slice none 0 0) (.slice none 0 0) (.slice none 0 0) (.int .i64 0) (.int .i64 0) (.int .i64 0)∧OwD U w.heap.size noD∧OwV U w.heap.size noI∧u.grownBy U (some (w.heap.size+1)) from by subst hU;exact ended17 (w:=w) (x:=noD) (y:=noI) false 0 0 (zu G1).b (zu K1) (ownD_no _ (w.heap.size+2)) (ownV_no _ _) (by omega))
  replace hU:=zh hU
  obtain⟨f0,f1,f2,f3,f4,f5,f6,f7,f8,f9,f10⟩:=(zu K1).fs
  obtain⟨b0,b1,b2,b3,b4,b5,b6,b7,b8,b9,b10⟩:=(zu K1).cs
  go_wp2
  clear f0 b0 f1 b1 f2 b2 f3 b3 f4 b4 f5 b5 f6 b6 f7 b7 f8 b8 f9 b9 f10 b10
  rw[zu hU]
  clear hU
  have r0:=(zu EN).2.1
  obtain⟨q0,q1,q2,q3,q4,q5,q6,q7,q8,q9,q10⟩:=r0.cs
  refine bodyPost_ret (v:= .tuple #[.agg #[.bool false,.int .i64 0,.slice none 0 0,.slice none 0 0,.slice none 0 0,.slice none 0 0,.slice none 0 0,.slice none 0 0,.int .i64 0,.int .i64 0,.int .i64 0],.int .i64 1]) (by simp[results,Tryz.results58,go_sem,q0,q1,q2,q3,q4,q5,q6,q7,q8,q9,q10]) rfl ?_
  rw[zu E]
  exact⟨noD,noI,rfl,rfl,rfl,(zu EN).2.2.1,(zu EN).2.2.2.1,(zu EN).1⟩
 |true=>
 have E:=zh (show rr=r by rw[←zu RE,if_pos (show true=true from rfl)])
 clear RE
 obtain⟨c0,c1,c2,c3,c4,c5,c6,c7,c8,c9,c10⟩:=(zu G1).k.cs
 have lt:=(zu G1).k.lt.2
 go_wp2_with fail
 have M0:=zh (Mc.begun (zu G1).r (zu G1).rb (zu G1).b.size up sg ct)
 have bm:=one_more u (.cells #[.int .i32 0,.int .u32 0,.int .i64 x.room,.slice x.a x.ps.length x.c,.bool up,.slice (some ⟨z.ga,0,none⟩) z.b.ac.length z.ca,.slice (some ⟨z.gi,0,none⟩) z.b.ic.length z.ci,.slice (some ⟨z.gb,0,none⟩) z.b.bs.length z.cb,.slice (some ⟨z.gl,0,none⟩) z.b.ls.length z.cl,.slice (some ⟨z.gt,0,none⟩) z.b.ts.length z.ct,.int .i64 z.b.lot,.int .i64 sg,.int .i64 ct] 109)
 have G2:=zh ((zu G1).step bm)
 have K2:=zh ((zu K1).below bm (zu K1).lt.2)
 have b2:=zh ((zu G1).b.trans (bm.mono (zu G1).b.size))
 clear bm
 clear c0 c1 c2 c3 c4 c5 c6 c7 c8 c9 c10 lt G1 K1
 generalize u.alloc (.cells #[.int .i32 0,.int .u32 0,.int .i64 x.room,.slice x.a x.ps.length x.c,.bool up,.slice (some ⟨z.ga,0,none⟩) z.b.ac.length z.ca,.slice (some ⟨z.gi,0,none⟩) z.b.ic.length z.ci,.slice (some ⟨z.gb,0,none⟩) z.b.bs.length z.cb,.slice (some ⟨z.gl,0,none⟩) z.b.ls.length z.cl,.slice (some ⟨z.gt,0,none⟩) z.b.ts.length z.ct,.int .i64 z.b.lot,.int .i64 sg,.int .i64 ct] 109)=U2 at *
 refine(IDo17.iDo _ w.heap.size u.heap.size K caps up x (ixB z) sg ct r (zu M0) hK (fun u' gr m=>(zu HD) (by simp) u' u.heap.size w.heap.size (grow_low (zu b2) gr ⟨by omega,(zu b2).size⟩) (by omega) m)).mono ?_
 rintro e u3 ⟨x1,y1,hx1,hy1,rfl,ox,oy,gr⟩
 have G9:=zh ((zu G2).kept gr (by omega) (by omega) (zu HR) (zu HY))
 have K9:=zh ((zu K2).kept gr (by simp;omega))
 have lu:w.heap.size+2≤U2.heap.size:=by have:=(zu M0).k.lt.2;omega
 have OX:=zh ox
 have OY:=zh oy
 have HX:=zh hx1
 have HYY:=zh hy1
 clear ox oy hx1 hy1 gr M0 G2 K2 HD HR HY b2
 obtain⟨⟨ru,rd,rb,rs,rt⟩,rc⟩:=r
 obtain⟨U,hU⟩:∃U,(((((((((((u3).setCell ⟨w.heap.size+1,0,none⟩ (.bool ru)).setCell ⟨w.heap.size+1,1,none⟩ (.int .i64 x1.room)).setCell ⟨w.heap.size+1,2,none⟩ (.slice x1.a x1.ps.length x1.c)).setCell ⟨w.heap.size+1,3,none⟩ (.slice y1.aa y1.b.ac.length y1.ca)).setCell ⟨w.heap.size+1,4,none⟩ (.slice y1.ai y1.b.ic.length y1.ci)).setCell ⟨w.heap.size+1,5,none⟩ (.slice y1.ab y1.b.bs.length y1.cb)).setCell ⟨w.heap.size+1,6,none⟩ (.slice y1.al y1.b.ls.length y1.cl)).setCell ⟨w.heap.size+1,7,none⟩ (.slice y1.ats y1.b.ts.length y1.ct)).setCell ⟨w.heap.size+1,8,none⟩ (.int .i64 y1.b.lot)).setCell ⟨w.heap.size+1,9,none⟩ (.int .i64 rs)).setCell ⟨w.heap.size+1,10,none⟩ (.int .i64 rt)=U:=⟨_,rfl⟩
 have EN:=zh (show Below w.heap.size w U∧Bx11 U w.heap.size (w.heap.size+1) (.bool ru) (.int .i64 x1.room) (.slice x1.a x1.ps.length x1.c) (.slice y1.aa y1.b.ac.length y1.ca) (.slice y1.ai y1.b.ic.length y1.ci) (.slice y1.ab y1.b.bs.length y1.cb) (.slice y1.al y1.b.ls.length y1.cl) (.slice y1.ats y1.b.ts.length y1.ct) (.int .i64 y1.b.lot) (.int .i64 rs) (.int .i64 rt)∧OwD U w.heap.size x1∧OwV U w.heap.size y1∧u3.grownBy U (some (w.heap.size+1)) from by subst hU;exact ended17 (w:=w) (x:=x1) (y:=y1) ru rs rt (zu G9).b (zu K9) (zu OX) (zu OY) (by omega))
 replace hU:=zh hU
 obtain⟨f0,f1,f2,f3,f4,f5,f6,f7,f8,f9,f10⟩:=(zu K9).fs
 obtain⟨b0,b1,b2,b3,b4,b5,b6,b7,b8,b9,b10⟩:=(zu K9).cs
 go_wp2
 clear f0 b0 f1 b1 f2 b2 f3 b3 f4 b4 f5 b5 f6 b6 f7 b7 f8 b8 f9 b9 f10 b10
 rw[zu hU]
 clear hU
 have r0:=(zu EN).2.1
 obtain⟨q0,q1,q2,q3,q4,q5,q6,q7,q8,q9,q10⟩:=r0.cs
 refine bodyPost_ret (v:= .tuple #[.agg #[.bool ru,.int .i64 x1.room,.slice x1.a x1.ps.length x1.c,.slice y1.aa y1.b.ac.length y1.ca,.slice y1.ai y1.b.ic.length y1.ci,.slice y1.ab y1.b.bs.length y1.cb,.slice y1.al y1.b.ls.length y1.cl,.slice y1.ats y1.b.ts.length y1.ct,.int .i64 y1.b.lot,.int .i64 rs,.int .i64 rt],.int .i64 rc]) (by simp[results,Tryz.results58,go_sem,q0,q1,q2,q3,q4,q5,q6,q7,q8,q9,q10]) rfl ?_
 rw[zu E]
 exact⟨x1,y1,zu HX,zu HYY,rfl,(zu EN).2.2.1,(zu EN).2.2.2.1,(zu EN).1⟩
theorem iUp(u:World)(base g gb:Nat)(up:Bool)(x:Dx)(z:Bx)(sg ct:Int)(r:PE×Int)(K:Nat)(caps:Array Value)(hK:∀(args:Array Value) (u:World),(callFunc K args).run Tryz.prog u= .ok (.enter K args) u)(m:Mc u base g 1 up x (ixB z) sg ct)(hc:u.cell? ⟨gb,0,none⟩=some (.func (.func K) #[] caps))
  (D:up=true→Calls Tryz.prog K (#[.pointer (some ⟨g,0,none⟩)]++caps) u (DeedTo r u base g)):
  Calls Tryz.prog 59 (#[.pointer (some ⟨g,0,none⟩)]++ #[.pointer (some ⟨gb,0,none⟩)]) u (DeedTo (if up=true then r else((up,(x.room,x.ps),z.b,sg,ct),2)) u base g):=by
 have hx:DeedTo (if up=true then r else((up,(x.room,x.ps),z.b,sg,ct),2)) u base g=DeedTo (if up=true then r else((up,(x.room,x.ps),z.b,sg,ct),2)) u base g:=rfl
 clear hx
 have c4:=m.k.c4
 have HM:=zh m
 have HD:=zh D
 clear m D
 show Calls Tryz.prog 59 #[.pointer (some ⟨g,0,none⟩),.pointer (some ⟨gb,0,none⟩)] u _
 go_enter Tryz.func59,Tryz.ntmps59
 cases up
 ·go_wp2
  go_ret
  exact⟨x,ixB z,rfl,rfl,rfl,zu HM,grow_refl _ _⟩
 go_wp2_with fail
 refine((zu HD) (by simp)).mono ?_
 rintro e u1 ⟨x1,y1,hx,hy,rfl,m1,g1⟩
 have F:=zh (show DeedTo r u base g (.returned (.int .i64 r.2)) u1 from⟨x1,y1,hx,hy,rfl,m1,g1⟩)
 clear hx hy m1 g1
 go_wp2
 go_ret
 exact zu F
theorem iTurnedUp(w:World)(up:Bool)(x:Dx)(z:Bx)(sg ct:Int)(vb v:Bool)(K:Nat)(caps:Array Value)(r:PE×Int)(hr:RdD w x)(hz:sumZ x.ps≤1048576)(hy:Rd w z)(hb:Says vb (Ok z.b))(hv:Says v (OkE up x.room x.ps z.b sg ct))(hK:∀(args:Array Value) (u:World),(callFunc K args).run Tryz.prog u= .ok (.enter K args) u)
  (D:v=true→up=true→∀(u:World) (g base:Nat),Below w.heap.size w u→w.heap.size≤g→Mc u base g 1 true x (ixB z) sg ct→Calls Tryz.prog K (#[.pointer (some ⟨g,0,none⟩)]++caps) u (DeedTo r u base g)):
  Calls Tryz.prog 19 #[.agg #[.bool up,.int .i64 x.room,.slice x.a x.ps.length x.c,.slice (some ⟨z.ga,0,none⟩) z.b.ac.length z.ca,.slice (some ⟨z.gi,0,none⟩) z.b.ic.length z.ci,.slice (some ⟨z.gb,0,none⟩) z.b.bs.length z.cb,.slice (some ⟨z.gl,0,none⟩) z.b.ls.length z.cl,.slice (some ⟨z.gt,0,none⟩) z.b.ts.length z.ct,.int .i64 z.b.lot,.int .i64 sg,.int .i64 ct],.func (.func K) #[] caps] w (ToldE (if v=true then(if up=true then r else((up,(x.room,x.ps),z.b,sg,ct),2)) else(noE,1)) w):=by
 have GW:=zh (((Eg.made hr hy (Below.refl _ _) up sg ct).step (one_more _ (.cells #[.func (.func K) #[] caps] 68))).step (one_more _ (.cells #[.bool false,.int .i64 0,.slice none 0 0,.slice none 0 0,.slice none 0 0,.slice none 0 0,.slice none 0 0,.slice none 0 0,.int .i64 0,.int .i64 0,.int .i64 0] 46)))
 have KW:=zh (Bx11.made (w:=(w.alloc (.cells #[.bool up,.int .i64 x.room,.slice x.a x.ps.length x.c,.slice (some ⟨z.ga,0,none⟩) z.b.ac.length z.ca,.slice (some ⟨z.gi,0,none⟩) z.b.ic.length z.ci,.slice (some ⟨z.gb,0,none⟩) z.b.bs.length z.cb,.slice (some ⟨z.gl,0,none⟩) z.b.ls.length z.cl,.slice (some ⟨z.gt,0,none⟩) z.b.ts.length z.ct,.int .i64 z.b.lot,.int .i64 sg,.int .i64 ct] 46)).alloc (.cells #[.func (.func K) #[] caps] 68)) (base:=w.heap.size) (g:=w.heap.size+1+1) (.bool false) (.int .i64 0) (.slice none 0 0) (.slice none 0 0) (.slice none 0 0) (.slice none 0 0) (.slice none 0 0) (.slice none 0 0) (.int .i64 0) (.int .i64 0) (.int .i64 0) (by simp;omega) (by simp))
 have CW:=zh (show(((w.alloc (.cells #[.bool up,.int .i64 x.room,.slice x.a x.ps.length x.c,.slice (some ⟨z.ga,0,none⟩) z.b.ac.length z.ca,.slice (some ⟨z.gi,0,none⟩) z.b.ic.length z.ci,.slice (some ⟨z.gb,0,none⟩) z.b.bs.length z.cb,.slice (some ⟨z.gl,0,none⟩) z.b.ls.length z.cl,.slice (some ⟨z.gt,0,none⟩) z.b.ts.length z.ct,.int .i64 z.b.lot,.int .i64 sg,.int .i64 ct] 46)).alloc (.cells #[.func (.func K) #[] caps] 68)).alloc (.cells #[.bool false,.int .i64 0,.slice none 0 0,.slice none 0 0,.slice none 0 0,.slice none 0 0,.slice none 0 0,.slice none 0 0,.int .i64 0,.int .i64 0,.int .i64 0] 46)).cell? ⟨w.heap.size+1,0,none⟩=some (.func (.func K) #[] caps) from((one_more ((w.alloc (.cells #[.bool up,.int .i64 x.room,.slice x.a x.ps.length x.c,.slice (some ⟨z.ga,0,none⟩) z.b.ac.length z.ca,.slice (some ⟨z.gi,0,none⟩) z.b.ic.length z.ci,.slice (some ⟨z.gb,0,none⟩) z.b.bs.length z.cb,.slice (some ⟨z.gl,0,none⟩) z.b.ls.length z.cl,.slice (some ⟨z.gt,0,none⟩) z.b.ts.length z.ct,.int .i64 z.b.lot,.int .i64 sg,.int .i64 ct] 46)).alloc (.cells #[.func (.func K) #[] caps] 68)) (.cells #[.bool false,.int .i64 0,.slice none 0 0,.slice none 0 0,.slice none 0 0,.slice none 0 0,.slice none 0 0,.slice none 0 0,.int .i64 0,.int .i64 0,.int .i64 0] 46)).cell (p:=⟨w.heap.size+1,0,none⟩) (by simp)).trans (by simp))
 have ws:(((w.alloc (.cells #[.bool up,.int .i64 x.room,.slice x.a x.ps.length x.c,.slice (some ⟨z.ga,0,none⟩) z.b.ac.length z.ca,.slice (some ⟨z.gi,0,none⟩) z.b.ic.length z.ci,.slice (some ⟨z.gb,0,none⟩) z.b.bs.length z.cb,.slice (some ⟨z.gl,0,none⟩) z.b.ls.length z.cl,.slice (some ⟨z.gt,0,none⟩) z.b.ts.length z.ct,.int .i64 z.b.lot,.int .i64 sg,.int .i64 ct] 46)).alloc (.cells #[.func (.func K) #[] caps] 68)).alloc (.cells #[.bool false,.int .i64 0,.slice none 0 0,.slice none 0 0,.slice none 0 0,.slice none 0 0,.slice none 0 0,.slice none 0 0,.int .i64 0,.int .i64 0,.int .i64 0] 46)).heap.size=w.heap.size+3:=by simp
 have hKU:∀(args:Array Value) (u:World),(callFunc 59 args).run Tryz.prog u= .ok (.enter 59 args) u:=fun _ _=>IRead.enters Tryz.func59 (by kernel_rfl) rfl _ _
 have hmf:∀(fn:Fn) (first cp:Array Value) (w:World),(Instr.makeFunc fn first cp).run Tryz.prog w= .ok (.func fn first cp) w:=fun _ _ _ _=>rfl
 have TU:=zh (fun(W:World) (c:W.cell? ⟨w.heap.size+1,0,none⟩=some (.func (.func K) #[] caps)) (l:w.heap.size+1<W.heap.size) (b:Below w.heap.size w W) (h:RdD W x) (k:Rd W z)=>iTurned W up x z sg ct vb v 59 #[.pointer (some ⟨w.heap.size+1,0,none⟩)] (if up=true then r else((up,(x.room,x.ps),z.b,sg,ct),2)) h hz k hb hv hKU (fun hv2 u' g' base' b' lg m=>iUp u' base' g' (w.heap.size+1) up x z sg ct r K caps hK m ((b'.cell (p:=⟨w.heap.size+1,0,none⟩) l).trans c) (fun hu=>D hv2 hu u' g' base' (b.trans (b'.mono b.size)) (Nat.le_trans b.size lg) (by subst hu;exact m))))
 clear hr hy hb hv hz D
 obtain⟨c0,c1,c2,c3,c4,c5,c6,c7,c8,c9,c10⟩:=(zu GW).k.cs
 have lt:=(zu GW).k.lt.2
 generalize hrr:(if v=true then(if up=true then r else((up,(x.room,x.ps),z.b,sg,ct),2)) else(noE,1))=rr at *
 clear hrr
 go_enter Tryz.func19,Tryz.ntmps19
 go_wp2_with fail
 generalize ((w.alloc (.cells #[.bool up,.int .i64 x.room,.slice x.a x.ps.length x.c,.slice (some ⟨z.ga,0,none⟩) z.b.ac.length z.ca,.slice (some ⟨z.gi,0,none⟩) z.b.ic.length z.ci,.slice (some ⟨z.gb,0,none⟩) z.b.bs.length z.cb,.slice (some ⟨z.gl,0,none⟩) z.b.ls.length z.cl,.slice (some ⟨z.gt,0,none⟩) z.b.ts.length z.ct,.int .i64 z.b.lot,.int .i64 sg,.int .i64 ct] 46)).alloc (.cells #[.func (.func K) #[] caps] 68)).alloc (.cells #[.bool false,.int .i64 0,.slice none 0 0,.slice none 0 0,.slice none 0 0,.slice none 0 0,.slice none 0 0,.slice none 0 0,.int .i64 0,.int .i64 0,.int .i64 0] 46)=W at *
 refine((zu TU) _ (zu CW) (by omega) (zu GW).b (zu GW).r (zu GW).rb).mono ?_
 rintro e u9 ⟨x1,y1,hx1,hy1,rfl,ox,oy,b9⟩
 have G9:=zh ((zu GW).step b9)
 have K9:=zh ((zu KW).below b9 (zu KW).lt.2)
 have OX:=zh ox
 have OY:=zh oy
 have HX:=zh hx1
 have HYY:=zh hy1
 have lk:=(zu KW).lt.2
 clear b9 ox oy hx1 hy1 TU CW
 clear c0 c1 c2 c3 c4 c5 c6 c7 c8 c9 c10 lt
 have E:=zh (show rr=rr from rfl)
 obtain⟨⟨ru,rd,rb,rs,rt⟩,rc⟩:=rr
 obtain⟨U,hU⟩:∃U,(((((((((((u9).setCell ⟨w.heap.size+1+1,0,none⟩ (.bool ru)).setCell ⟨w.heap.size+1+1,1,none⟩ (.int .i64 x1.room)).setCell ⟨w.heap.size+1+1,2,none⟩ (.slice x1.a x1.ps.length x1.c)).setCell ⟨w.heap.size+1+1,3,none⟩ (.slice y1.aa y1.b.ac.length y1.ca)).setCell ⟨w.heap.size+1+1,4,none⟩ (.slice y1.ai y1.b.ic.length y1.ci)).setCell ⟨w.heap.size+1+1,5,none⟩ (.slice y1.ab y1.b.bs.length y1.cb)).setCell ⟨w.heap.size+1+1,6,none⟩ (.slice y1.al y1.b.ls.length y1.cl)).setCell ⟨w.heap.size+1+1,7,none⟩ (.slice y1.ats y1.b.ts.length y1.ct)).setCell ⟨w.heap.size+1+1,8,none⟩ (.int .i64 y1.b.lot)).setCell ⟨w.heap.size+1+1,9,none⟩ (.int .i64 rs)).setCell ⟨w.heap.size+1+1,10,none⟩ (.int .i64 rt)=U:=⟨_,rfl⟩
 have EN:=zh (show Below w.heap.size w U∧Bx11 U w.heap.size (w.heap.size+1+1) (.bool ru) (.int .i64 x1.room) (.slice x1.a x1.ps.length x1.c) (.slice y1.aa y1.b.ac.length y1.ca) (.slice y1.ai y1.b.ic.length y1.ci) (.slice y1.ab y1.b.bs.length y1.cb) (.slice y1.al y1.b.ls.length y1.cl) (.slice y1.ats y1.b.ts.length y1.ct) (.int .i64 y1.b.lot) (.int .i64 rs) (.int .i64 rt)∧OwD U w.heap.size x1∧OwV U w.heap.size y1∧u9.grownBy U (some (w.heap.size+1+1)) from by subst hU;exact ended17 (w:=w) (x:=x1) (y:=y1) ru rs rt (zu G9).b (zu K9) (zu OX) (zu OY) (by omega))
 replace hU:=zh hU
 obtain⟨f0,f1,f2,f3,f4,f5,f6,f7,f8,f9,f10⟩:=(zu K9).fs
 obtain⟨b0,b1,b2,b3,b4,b5,b6,b7,b8,b9,b10⟩:=(zu K9).cs
 go_wp2
 clear f0 b0 f1 b1 f2 b2 f3 b3 f4 b4 f5 b5 f6 b6 f7 b7 f8 b8 f9 b9 f10 b10
 rw[zu hU]
 clear hU
 have r0:=(zu EN).2.1
 obtain⟨q0,q1,q2,q3,q4,q5,q6,q7,q8,q9,q10⟩:=r0.cs
 refine bodyPost_ret (v:= .tuple #[.agg #[.bool ru,.int .i64 x1.room,.slice x1.a x1.ps.length x1.c,.slice y1.aa y1.b.ac.length y1.ca,.slice y1.ai y1.b.ic.length y1.ci,.slice y1.ab y1.b.bs.length y1.cb,.slice y1.al y1.b.ls.length y1.cl,.slice y1.ats y1.b.ts.length y1.ct,.int .i64 y1.b.lot,.int .i64 rs,.int .i64 rt],.int .i64 rc]) (by simp[results,Tryz.results19,go_sem,q0,q1,q2,q3,q4,q5,q6,q7,q8,q9,q10]) rfl ?_
 exact⟨x1,y1,zu HX,zu HYY,rfl,(zu EN).2.2.1,(zu EN).2.2.2.1,(zu EN).1⟩
end ITurn17
end Go.Proofs.YtppkkmaoaiopaaaGreat
