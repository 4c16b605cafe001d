/- Lemmas. -/
import Derived.Test.YtppkkmaoaiopaaaGreatQF25
open Go.ChangeShapes Go.WideShapes Go.ChangeAt Go.RowKit
set_option linter.unusedVariables false
set_option linter.unusedSimpArgs false
set_option maxRecDepth 100000
set_option maxHeartbeats 32000000
namespace Go.Proofs.YtppkkmaoaiopaaaGreat
namespace SEngTs17
open Fil14 OpensF14 DiskH14 DkH14 SDk14 SOk14 SRd14 SCom14 Law14 EBx17 EFin17 SEngOk17 SEngSv17 LawW16 BMemV13 VB13 CrE17 SEngCr17 PTorn17
open BMem (Bx Rd Ow)
open Bks (Bk Ok)
open BHelp (Ix)
open Lots (Says)
open SSave16 (saveD)
open SStep16 (stepD)
open SLess14 (bc_set1)
open App14 (grow_grow)
open SCrash14 (crashD)
theorem grow_refl(w:World)(row:Option Nat):w.grownBy w row:=⟨rfl,rfl,rfl,Nat.le_refl _,fun _ _ _=>rfl⟩
theorem grow_below{w X X':World}{row:Option Nat}(h:w.grownBy X row)(k:Below X.heap.size X X'):w.grownBy X' row:=
 ⟨k.os.trans h.os,k.tape.trans h.tape,k.output.trans h.output,Nat.le_trans h.size k.size,fun i hi hr=>(k.block i (Nat.lt_of_lt_of_le hi h.size)).trans (h.block i hi hr)⟩
theorem grow_new{w X X':World}{row:Option Nat}{R:Nat}(h:w.grownBy X row)(k:X.grownBy X' (some R))(n:w.heap.size≤R):w.grownBy X' row:=
 ⟨k.os.trans h.os,k.tape.trans h.tape,k.output.trans h.output,Nat.le_trans h.size k.size,fun i hi hr=>(k.block i (Nat.lt_of_lt_of_le hi h.size) (by simp;omega)).trans (h.block i hi hr)⟩
structure Vd(w W:World)(gd:Nat)(c:Dx):Prop where
 k:Bc W w.heap.size gd (.int .i64 c.room) (.slice c.a c.ps.length c.c)
 st:∀V,W.grownBy V (some gd)→RdD V c
theorem Vd.step{w W W':World}{gd:Nat}{c:Dx}(h:Vd w W gd c)(b:Below W.heap.size W W'):Vd w W' gd c:=
 ⟨h.k.below b h.k.lt.2,fun V q=>h.st V (grow_grow (grow_below (grow_refl _ _) b) q)⟩
theorem Vd.rd{w W:World}{gd:Nat}{c:Dx}(h:Vd w W gd c):RdD W c:=h.st W (grow_refl _ _)
theorem sEngineTornSave(w:World)(up:Bool)(x:Dx)(z:Bx)(sg ct:Int)(vb v:Bool)(steps keep:Int)(hr:RdD w x)(hz:sumZ x.ps≤1048576)(hy:Rd w z)(hb:Says vb (Ok z.b))(hv:Says v (OkE up x.room x.ps z.b sg ct)):
  Calls Tryz.prog 5 #[.agg #[.bool up,.int .i64 x.room,.slice x.a x.ps.length x.c,.slice (some ⟨z.ga,0,none⟩) z.b.ac.length z.ca,.slice (some ⟨z.gi,0,none⟩) z.b.ic.length z.ci,.slice (some ⟨z.gb,0,none⟩) z.b.bs.length z.cb,.slice (some ⟨z.gl,0,none⟩) z.b.ls.length z.cl,.slice (some ⟨z.gt,0,none⟩) z.b.ts.length z.ct,.int .i64 z.b.lot,.int .i64 sg,.int .i64 ct],.int .i64 steps,.int .i64 keep] w (ToldE (tornE v vb up x.room x.ps z.b sg ct steps keep) w):=by
 have GW:=zh ((Eg.made hr hy (Below.refl _ _) up sg ct).step (one_more _ (.cells #[.bool false,.int .i64 0,.slice none 0 0,.slice none 0 0,.slice none 0 0,.slice none 0 0,.slice none 0 0,.slice none 0 0,.int .i64 0,.int .i64 0,.int .i64 0] 46)))
 have KW:=zh (Bx11.made (w:=w.alloc (.cells #[.bool up,.int .i64 x.room,.slice x.a x.ps.length x.c,.slice (some ⟨z.ga,0,none⟩) z.b.ac.length z.ca,.slice (some ⟨z.gi,0,none⟩) z.b.ic.length z.ci,.slice (some ⟨z.gb,0,none⟩) z.b.bs.length z.cb,.slice (some ⟨z.gl,0,none⟩) z.b.ls.length z.cl,.slice (some ⟨z.gt,0,none⟩) z.b.ts.length z.ct,.int .i64 z.b.lot,.int .i64 sg,.int .i64 ct] 46)) (base:=w.heap.size) (g:=w.heap.size+1) (.bool false) (.int .i64 0) (.slice none 0 0) (.slice none 0 0) (.slice none 0 0) (.slice none 0 0) (.slice none 0 0) (.slice none 0 0) (.int .i64 0) (.int .i64 0) (.int .i64 0) (by simp) (by simp))
 have ws:((w.alloc (.cells #[.bool up,.int .i64 x.room,.slice x.a x.ps.length x.c,.slice (some ⟨z.ga,0,none⟩) z.b.ac.length z.ca,.slice (some ⟨z.gi,0,none⟩) z.b.ic.length z.ci,.slice (some ⟨z.gb,0,none⟩) z.b.bs.length z.cb,.slice (some ⟨z.gl,0,none⟩) z.b.ls.length z.cl,.slice (some ⟨z.gt,0,none⟩) z.b.ts.length z.ct,.int .i64 z.b.lot,.int .i64 sg,.int .i64 ct] 46)).alloc (.cells #[.bool false,.int .i64 0,.slice none 0 0,.slice none 0 0,.slice none 0 0,.slice none 0 0,.slice none 0 0,.slice none 0 0,.int .i64 0,.int .i64 0,.int .i64 0] 46)).heap.size=w.heap.size+2:=by simp
 have EO:=zh (fun u (h:RdD u x) (k:Rd u z)=>sEngineOk u up x z sg ct vb v h hz k hb hv)
 have SS:=zh (fun u (c:Dx) (y:Bx) k (h:RdD u c) (hz:sumZ c.ps≤1048576) (k2:Rd u y) (q:y.b=z.b)=>show Calls Tryz.prog 14 #[.agg #[.int .i64 c.room,.slice c.a c.ps.length c.c],.agg #[.int .i64 ((sg+1)%20),.slice (some ⟨y.ga,0,none⟩) y.b.ac.length y.ca,.slice (some ⟨y.gi,0,none⟩) y.b.ic.length y.ci,.slice (some ⟨y.gb,0,none⟩) y.b.bs.length y.cb,.slice (some ⟨y.gl,0,none⟩) y.b.ls.length y.cl,.slice (some ⟨y.gt,0,none⟩) y.b.ts.length y.ct,.int .i64 y.b.lot],.int .i64 k] u (ToldD (stepD c.room c.ps (saveD ((sg+1)%20) z.b vb) k) u) from by
  have this:=SStep16.sSaveStep u c y ((sg+1)%20) k vb h hz k2 (by rw[q];exact hb)
  have e:stepD c.room c.ps (saveD ((sg+1)%20) y.b vb) k=stepD c.room c.ps (saveD ((sg+1)%20) z.b vb) k:=by rw[q]
  rw[e] at this
  exact this)
 have HV:=zh (show v=true↔OkE up x.room x.ps z.b sg ct from hv)
 have RE:tornE v vb up x.room x.ps z.b sg ct steps keep=if v=true then downE up x.room x.ps z.b sg ct (tornF (saveD ((sg+1)%20) z.b vb) (runs up steps) 0 (x.room,x.ps)) keep else(noE,1):=by
  unfold CrE17.tornE
  rw[torn_n]
 generalize tornE v vb up x.room x.ps z.b sg ct steps keep=rr at *
 generalize saveD ((sg+1)%20) z.b vb=tx at *
 obtain⟨tot,htot⟩:∃tot,tornF tx (runs up steps) 0 (x.room,x.ps)=tot:=⟨_,rfl⟩
 rw[htot] at RE
 have DN:=zh (fun u (c:Dx) (h:RdD u x) (k:Rd u z) (hd:RdD u c) (hz:sumZ c.ps≤1048576) (q:(c.room,c.ps)=tot)=>show Calls Tryz.prog 16 #[.agg #[.bool up,.int .i64 x.room,.slice x.a x.ps.length x.c,.slice (some ⟨z.ga,0,none⟩) z.b.ac.length z.ca,.slice (some ⟨z.gi,0,none⟩) z.b.ic.length z.ci,.slice (some ⟨z.gb,0,none⟩) z.b.bs.length z.cb,.slice (some ⟨z.gl,0,none⟩) z.b.ls.length z.cl,.slice (some ⟨z.gt,0,none⟩) z.b.ts.length z.ct,.int .i64 z.b.lot,.int .i64 sg,.int .i64 ct],.agg #[.int .i64 c.room,.slice c.a c.ps.length c.c],.int .i64 keep] u (ToldE (downE up x.room x.ps z.b sg ct tot keep) u) from by
  have this:=sDown u up x z sg ct c keep h k hd hz
  rw[q] at this
  exact this)
 obtain⟨dd,hdd⟩:∃dd,downE up x.room x.ps z.b sg ct tot keep=dd:=⟨_,rfl⟩
 rw[hdd] at RE DN
 replace RE:=zh RE
 have HT:=zh (show tornF tx (runs up steps-0) ((0:Nat):Int) (x.room,x.ps)=tot from htot)
 have RI:=zh (fun(k:Nat) (h:k≤runs up steps)=>runs_iff (up:=up) (steps:=steps) h)
 have R4:=runs_le up steps
 generalize runs up steps=N at *
 have HR:=zh hr
 have HY:=zh hy
 have zx:=hz
 have SMA:=zh (show BMem.Small z.b from⟨hy.na,hy.ni,hy.nb,hy.nl,hy.nt⟩)
 clear hr hy hb hv hz htot hdd
 obtain⟨c0,c1,c2,c3,c4,c5,c6,c7,c8,c9,c10⟩:=(zu GW).k.cs
 have lt:=(zu GW).k.lt.2
 go_enter Tryz.func5,Tryz.ntmps5
 go_wp2_with fail
 generalize (w.alloc (.cells #[.bool up,.int .i64 x.room,.slice x.a x.ps.length x.c,.slice (some ⟨z.ga,0,none⟩) z.b.ac.length z.ca,.slice (some ⟨z.gi,0,none⟩) z.b.ic.length z.ci,.slice (some ⟨z.gb,0,none⟩) z.b.bs.length z.cb,.slice (some ⟨z.gl,0,none⟩) z.b.ls.length z.cl,.slice (some ⟨z.gt,0,none⟩) z.b.ts.length z.ct,.int .i64 z.b.lot,.int .i64 sg,.int .i64 ct] 46)).alloc (.cells #[.bool false,.int .i64 0,.slice none 0 0,.slice none 0 0,.slice none 0 0,.slice none 0 0,.slice none 0 0,.slice none 0 0,.int .i64 0,.int .i64 0,.int .i64 0] 46)=W at *
 refine(zu EO _ (zu GW).r (zu GW).rb).mono ?_
 rintro e u ⟨rfl,b1⟩
 have G1:=zh ((zu GW).step b1)
 have K1:=zh ((zu KW).below b1 (zu KW).lt.2)
 have us:=b1.size
 rw[ws] at us
 clear b1 GW KW EO ws
 clear c0 c1 c2 c3 c4 c5 c6 c7 c8 c9 c10 lt
 cases v with
 |false=>
  have E:=zh (show rr=(noE,1) by rw[zu RE,if_neg (show ¬(false=true) by simp)])
  clear RE HV DN SS HT RI SMA HR HY
  obtain⟨U,hU⟩:∃U,(((((((((((u).setCell ⟨w.heap.size+1,0,none⟩ (.bool false)).setCell ⟨w.heap.size+1,1,none⟩ (.int .i64 0)).setCell ⟨w.heap.size+1,2,none⟩ (.slice none 0 0)).setCell ⟨w.heap.size+1,3,none⟩ (.slice none 0 0)).setCell ⟨w.heap.size+1,4,none⟩ (.slice none 0 0)).setCell ⟨w.heap.size+1,5,none⟩ (.slice none 0 0)).setCell ⟨w.heap.size+1,6,none⟩ (.slice none 0 0)).setCell ⟨w.heap.size+1,7,none⟩ (.slice none 0 0)).setCell ⟨w.heap.size+1,8,none⟩ (.int .i64 0)).setCell ⟨w.heap.size+1,9,none⟩ (.int .i64 0)).setCell ⟨w.heap.size+1,10,none⟩ (.int .i64 0)=U:=⟨_,rfl⟩
  have EN:=zh (show Below w.heap.size w U∧Bx11 U w.heap.size (w.heap.size+1) (.bool false) (.int .i64 0) (.slice none 0 0) (.slice none 0 0) (.slice none 0 0) (.slice none 0 0) (.slice none 0 0) (.slice none 0 0) (.int .i64 0) (.int .i64 0) (.int .i64 0)∧OwD U w.heap.size noD∧OwV U w.heap.size noI∧u.grownBy U (some (w.heap.size+1)) from by subst hU;exact ended17 (w:=w) (x:=noD) (y:=noI) false 0 0 (zu G1).b (zu K1) (ownD_no _ (w.heap.size+2)) (ownV_no _ _) (by omega))
  replace hU:=zh hU
  obtain⟨f0,f1,f2,f3,f4,f5,f6,f7,f8,f9,f10⟩:=(zu K1).fs
  obtain⟨b0,b1,b2,b3,b4,b5,b6,b7,b8,b9,b10⟩:=(zu K1).cs
  go_wp2
  clear f0 b0 f1 b1 f2 b2 f3 b3 f4 b4 f5 b5 f6 b6 f7 b7 f8 b8 f9 b9 f10 b10
  rw[zu hU]
  clear hU
  have r0:=(zu EN).2.1
  obtain⟨q0,q1,q2,q3,q4,q5,q6,q7,q8,q9,q10⟩:=r0.cs
  try rw[Exit.noGoto_ret]
  refine bodyPost_ret (v:= .tuple #[.agg #[.bool false,.int .i64 0,.slice none 0 0,.slice none 0 0,.slice none 0 0,.slice none 0 0,.slice none 0 0,.slice none 0 0,.int .i64 0,.int .i64 0,.int .i64 0],.int .i64 1]) (by simp[results,Tryz.results5,go_sem,q0,q1,q2,q3,q4,q5,q6,q7,q8,q9,q10]) rfl ?_
  rw[zu E]
  exact⟨noD,noI,rfl,rfl,rfl,(zu EN).2.2.1,(zu EN).2.2.2.1,(zu EN).1⟩
 |true=>
 have E:=zh (show rr=dd by rw[zu RE,if_pos (show true=true from rfl)])
 clear RE
 have bA:=one_more u (.cells #[.int .i64 x.room,.slice x.a x.ps.length x.c] 37)
 have G2:=zh ((zu G1).step bA)
 have K2:=zh ((zu K1).below bA (zu K1).lt.2)
 have D2:=zh (show Vd w _ u.heap.size x from⟨Bc.made (w:=u) (base:=w.heap.size) (g:=u.heap.size) (.int .i64 x.room) (.slice x.a x.ps.length x.c) (by omega) rfl,fun V q=>(zu HR).below (Bx16.grow_low (zu G2).b q ⟨by omega,(zu G2).b.size⟩)⟩)
 clear bA
 obtain⟨c0,c1,c2,c3,c4,c5,c6,c7,c8,c9,c10⟩:=(zu G1).k.cs
 have lt:=(zu G1).k.lt.2
 go_wp2
 clear c0 c1 c2 c3 c4 c5 c6 c7 c8 c9 c10 lt G1 K1
 generalize u.alloc (.cells #[.int .i64 x.room,.slice x.a x.ps.length x.c] 37)=U0 at *
 go_loopw [9] (fun i wr=>∃(k:Nat) (c:Dx),k≤N∧i= .int .i64 k∧sumZ c.ps≤1048576∧Hid (tornF tx (N-k) k (c.room,c.ps)=tot)∧Hid (Eg w wr w.heap.size up x z sg ct)∧Hid (Bx11 wr w.heap.size (w.heap.size+1) (.bool false) (.int .i64 0) (.slice none 0 0) (.slice none 0 0) (.slice none 0 0) (.slice none 0 0) (.slice none 0 0) (.slice none 0 0) (.int .i64 0) (.int .i64 0) (.int .i64 0))∧Hid (Vd w wr u.heap.size c)) (fun i _=>N-(intOf i).toNat)
 case atStart=>exact⟨0,x,by omega,rfl,zx,HT,G2,K2,D2⟩
 case round=>
  clear HT G2 K2 D2
  obtain⟨k,c,hk,rfl,zc,HE,HG,HK,HD⟩:=hrel
  rename_i wr
  by_cases t:k<N
  ·obtain⟨k1,k2,k3⟩:=((zu RI) k hk).1 t
   subst k2
   have HS:=zh (show 0≤sg∧sg≤19 from of_decide_eq_true (((zu HV).1 (by simp)).2.1 (by simp)).2.1)
   have NX:=zh (show(if(stepD c.room c.ps tx k).2=0 then tornF tx (N-(k+1)) ((k+1:Nat):Int) (stepD c.room c.ps tx k).1 else(c.room,c.ps))=tot from by
    rw[←zu HE,show N-k=(N-(k+1))+1 by omega]
    rfl)
   have SP:=zh (fun u (y:Bx) (h:RdD u c) (k2:Rd u y) (q:y.b=z.b)=>(zu SS) u c y k h zc k2 q)
   have SZ:=zh (step_small (room:=c.room) (ps:=c.ps) (tx:=tx) (k:=k))
   have SL:=zh (step_len (room:=c.room) (ps:=c.ps) (tx:=tx) (k:=k))
   generalize stepD c.room c.ps tx k=sr at *
   obtain⟨⟨sd,sp⟩,wc⟩:=sr
   clear HE
   have ul:u.heap.size+1≤wr.heap.size:=(zu HD).k.lt.2
   have HD0:=HD
   have GX:=zh (grow_refl wr (some u.heap.size))
   have c0:=(zu HG).k.c0
   have lt:=(zu HG).k.lt.2
   go_wp2_with fail
   clear c0 lt
   refine reg_rest (α:=Nat×Bx×Dx) (fun a x0=>((((((((((a.put (some 32) (.agg #[.int .i64 c.room,.slice c.a c.ps.length c.c])).put (some 33) (.agg #[.bool true,.int .i64 x.room,.slice x.a x.ps.length x.c,.slice (some ⟨z.ga,0,none⟩) z.b.ac.length z.ca,.slice (some ⟨z.gi,0,none⟩) z.b.ic.length z.ci,.slice (some ⟨z.gb,0,none⟩) z.b.bs.length z.cb,.slice (some ⟨z.gl,0,none⟩) z.b.ls.length z.cl,.slice (some ⟨z.gt,0,none⟩) z.b.ts.length z.ct,.int .i64 z.b.lot,.int .i64 sg,.int .i64 ct])).put (some 35) (.int .i64 k)).put (some 34) (.agg #[.int .i64 ((sg+1)%20),.slice (some ⟨x0.2.1.ga,0,none⟩) x0.2.1.b.ac.length x0.2.1.ca,.slice (some ⟨x0.2.1.gi,0,none⟩) x0.2.1.b.ic.length x0.2.1.ci,.slice (some ⟨x0.2.1.gb,0,none⟩) x0.2.1.b.bs.length x0.2.1.cb,.slice (some ⟨x0.2.1.gl,0,none⟩) x0.2.1.b.ls.length x0.2.1.cl,.slice (some ⟨x0.2.1.gt,0,none⟩) x0.2.1.b.ts.length x0.2.1.ct,.int .i64 x0.2.1.b.lot])).put (some 36) (.tuple #[.agg #[.int .i64 x0.2.2.room,.slice x0.2.2.a x0.2.2.ps.length x0.2.2.c],.int .i64 wc])).put (some 31) (.tuple #[.agg #[.int .i64 x0.2.2.room,.slice x0.2.2.a x0.2.2.ps.length x0.2.2.c],.int .i64 wc])).put (some 37) (.agg #[.int .i64 x0.2.2.room,.slice x0.2.2.a x0.2.2.ps.length x0.2.2.c])).put (some 38) (.int .i64 wc)).put (some 10) (.pointer (some ⟨x0.1,0,none⟩))).put (some 11) (.int .i64 wc))) (fun(x0:Nat×Bx×Dx) U=>Hid (Eg w U w.heap.size true x z sg ct∧Bx11 U w.heap.size (w.heap.size+1) (.bool false) (.int .i64 0) (.slice none 0 0) (.slice none 0 0) (.slice none 0 0) (.slice none 0 0) (.slice none 0 0) (.slice none 0 0) (.int .i64 0) (.int .i64 0) (.int .i64 0)∧Vd w U u.heap.size c∧Kd U x0.1 x0.2.2∧OwD U (u.heap.size+1) x0.2.2∧(x0.2.2.room,x0.2.2.ps)=(sd,sp)∧u.heap.size+1≤x0.1)) ?_ ?_
   ·rintro⟨g8,z1,y2⟩ U hf
    have G3:=zh (zu hf).1
    have K3:=zh (zu hf).2.1
    have D3:=zh (zu hf).2.2.1
    have KD:=zh (zu hf).2.2.2.1
    have OD:=zh (zu hf).2.2.2.2.1
    have YE:=zh (zu hf).2.2.2.2.2.1
    have g82:=(zu hf).2.2.2.2.2.2
    clear hf HG HK HD HD0 GX
    simp only at KD OD YE g82
    try simp only[Act.put,zA,zB,zC]
    by_cases az:wc=0
    case neg=>
     have ab:(wc !=0)=true:=by simpa using az
     have hend:=zh (show(c.room,c.ps)=tot from by have h:=zu NX;rw[if_neg az] at h;exact h)
     clear NX az KD OD YE SL SZ SP
     obtain⟨c0,c1,c2,c3,c4,c5,c6,c7,c8,c9,c10⟩:=(zu G3).k.cs
     have lt:=(zu G3).k.lt.2
     have e0:=(zu D3).k.c0
     have e1:=(zu D3).k.c1
     go_wp2_with fail
     refine((zu DN) _ c (zu G3).r (zu G3).rb (zu D3).rd zc (zu hend)).mono ?_
     rintro e u9 ⟨x1,y1,hx1,hy1,rfl,ox,oy,b9⟩
     have G9:=zh ((zu G3).step b9)
     have K9:=zh ((zu K3).below b9 (zu K3).lt.2)
     have OX:=zh ox
     have OY:=zh oy
     have HX:=zh hx1
     have HYY:=zh hy1
     have lk:=(zu K3).lt.2
     clear b9 ox oy hx1 hy1
     clear c0 c1 c2 c3 c4 c5 c6 c7 c8 c9 c10 lt e0 e1
     obtain⟨⟨ru,rd,rb,rs,rt⟩,rc⟩:=dd
     obtain⟨U,hU⟩:∃U,(((((((((((u9).setCell ⟨w.heap.size+1,0,none⟩ (.bool ru)).setCell ⟨w.heap.size+1,1,none⟩ (.int .i64 x1.room)).setCell ⟨w.heap.size+1,2,none⟩ (.slice x1.a x1.ps.length x1.c)).setCell ⟨w.heap.size+1,3,none⟩ (.slice y1.aa y1.b.ac.length y1.ca)).setCell ⟨w.heap.size+1,4,none⟩ (.slice y1.ai y1.b.ic.length y1.ci)).setCell ⟨w.heap.size+1,5,none⟩ (.slice y1.ab y1.b.bs.length y1.cb)).setCell ⟨w.heap.size+1,6,none⟩ (.slice y1.al y1.b.ls.length y1.cl)).setCell ⟨w.heap.size+1,7,none⟩ (.slice y1.ats y1.b.ts.length y1.ct)).setCell ⟨w.heap.size+1,8,none⟩ (.int .i64 y1.b.lot)).setCell ⟨w.heap.size+1,9,none⟩ (.int .i64 rs)).setCell ⟨w.heap.size+1,10,none⟩ (.int .i64 rt)=U:=⟨_,rfl⟩
     have EN:=zh (show Below w.heap.size w U∧Bx11 U w.heap.size (w.heap.size+1) (.bool ru) (.int .i64 x1.room) (.slice x1.a x1.ps.length x1.c) (.slice y1.aa y1.b.ac.length y1.ca) (.slice y1.ai y1.b.ic.length y1.ci) (.slice y1.ab y1.b.bs.length y1.cb) (.slice y1.al y1.b.ls.length y1.cl) (.slice y1.ats y1.b.ts.length y1.ct) (.int .i64 y1.b.lot) (.int .i64 rs) (.int .i64 rt)∧OwD U w.heap.size x1∧OwV U w.heap.size y1∧u9.grownBy U (some (w.heap.size+1)) from by subst hU;exact ended17 (w:=w) (x:=x1) (y:=y1) ru rs rt (zu G9).b (zu K9) (zu OX) (zu OY) (by omega))
     replace hU:=zh hU
     obtain⟨f0,f1,f2,f3,f4,f5,f6,f7,f8,f9,f10⟩:=(zu K9).fs
     obtain⟨b0,b1,b2,b3,b4,b5,b6,b7,b8,b9,b10⟩:=(zu K9).cs
     go_wp2
     clear f0 b0 f1 b1 f2 b2 f3 b3 f4 b4 f5 b5 f6 b6 f7 b7 f8 b8 f9 b9 f10 b10
     rw[zu hU]
     clear hU
     have r0:=(zu EN).2.1
     obtain⟨q0,q1,q2,q3,q4,q5,q6,q7,q8,q9,q10⟩:=r0.cs
     try rw[Exit.noGoto_ret]
     refine bodyPost_ret (v:= .tuple #[.agg #[.bool ru,.int .i64 x1.room,.slice x1.a x1.ps.length x1.c,.slice y1.aa y1.b.ac.length y1.ca,.slice y1.ai y1.b.ic.length y1.ci,.slice y1.ab y1.b.bs.length y1.cb,.slice y1.al y1.b.ls.length y1.cl,.slice y1.ats y1.b.ts.length y1.ct,.int .i64 y1.b.lot,.int .i64 rs,.int .i64 rt],.int .i64 rc]) (by simp[results,Tryz.results5,go_sem,q0,q1,q2,q3,q4,q5,q6,q7,q8,q9,q10]) rfl ?_
     rw[zu E]
     exact⟨x1,y1,zu HX,zu HYY,rfl,(zu EN).2.2.1,(zu EN).2.2.2.1,(zu EN).1⟩
    subst az
    have NX2:=zh (show tornF tx (N-(k+1)) ((k+1:Nat):Int) (y2.room,y2.ps)=tot from by have h:=zu NX;rw[if_pos rfl] at h;rw[zu YE];exact h)
    have zy:sumZ y2.ps≤1048576:=by have h:=(zu SZ) rfl;have e:y2.ps=sp:=congrArg Prod.snd (zu YE);rw[e];exact h
    have ly:y2.ps.length≤1048576:=by have h:=(zu SL) rfl;have e:y2.ps=sp:=congrArg Prod.snd (zu YE);rw[e];exact h
    have s0:=(zu D3).k.set0 (.int .i64 y2.room)
    have s1:=bc_set1 s0.1 (.slice y2.a y2.ps.length y2.c)
    have gs:=grow_grow s0.2 s1.2
    have lk:=(zu K3).lt.2
    have ld:=(zu D3).k.lt
    have G4:=zh ((zu G3).kept gs (by omega) (by omega) (zu HR) (zu HY))
    have K4:=zh ((zu K3).kept gs (by simp;omega))
    have D4:=zh (show Vd w _ u.heap.size y2 from⟨s1.1,fun V q=>OwD.rd (x:=y2) (show OwD V (u.heap.size+1) y2 from row_kept2 (zu OD) (grow_grow gs q) (by omega)) ly⟩)
    have f0:=(zu D3).k.free 0
    have f1:=(zu D3).k.free 1
    have h0:=(zu D3).k.c0
    have h1:=(zu D3).k.c1
    have d0:=(zu KD).c0
    have d1:=(zu KD).c1
    clear s0 s1 gs NX SZ SL
    go_wp2
    go_roundw
    case rel=>exact⟨k+1,y2,by omega,by go_num,zy,NX2,G4,K4,D4⟩
    case measure=>simp[intOf];omega
   ·refine wp_region_held_drew (S:=(fun w'=>w'.cell? ⟨w.heap.size,0,none⟩=some (.bool true)∧w'.cell? ⟨w.heap.size,1,none⟩=some (.int .i64 x.room)∧w'.cell? ⟨w.heap.size,2,none⟩=some (.slice x.a x.ps.length x.c)∧w'.cell? ⟨w.heap.size,3,none⟩=some (.slice (some ⟨z.ga,0,none⟩) z.b.ac.length z.ca)∧w'.cell? ⟨w.heap.size,4,none⟩=some (.slice (some ⟨z.gi,0,none⟩) z.b.ic.length z.ci)∧w'.cell? ⟨w.heap.size,5,none⟩=some (.slice (some ⟨z.gb,0,none⟩) z.b.bs.length z.cb)∧w'.cell? ⟨w.heap.size,6,none⟩=some (.slice (some ⟨z.gl,0,none⟩) z.b.ls.length z.cl)∧w'.cell? ⟨w.heap.size,7,none⟩=some (.slice (some ⟨z.gt,0,none⟩) z.b.ts.length z.ct)∧w'.cell? ⟨w.heap.size,8,none⟩=some (.int .i64 z.b.lot)∧w'.cell? ⟨w.heap.size,9,none⟩=some (.int .i64 sg)∧w'.cell? ⟨w.heap.size,10,none⟩=some (.int .i64 ct)∧w'.cell? ⟨u.heap.size,0,none⟩=some (.int .i64 c.room)∧w'.cell? ⟨u.heap.size,1,none⟩=some (.slice c.a c.ps.length c.c))) (by kernel_rfl) ⟨(zu HG).k.c0,(zu HG).k.c1,(zu HG).k.c2,(zu HG).k.c3,(zu HG).k.c4,(zu HG).k.c5,(zu HG).k.c6,(zu HG).k.c7,(zu HG).k.c8,(zu HG).k.c9,(zu HG).k.c10,(zu HD).k.c0,(zu HD).k.c1⟩ (fun hHeld=>?_)
    refine zT 0 32 (.agg #[.int .i64 c.room,.slice c.a c.ps.length c.c]) rfl hHeld ?_
    refine zT 1 33 (.agg #[.bool true,.int .i64 x.room,.slice x.a x.ps.length x.c,.slice (some ⟨z.ga,0,none⟩) z.b.ac.length z.ca,.slice (some ⟨z.gi,0,none⟩) z.b.ic.length z.ci,.slice (some ⟨z.gb,0,none⟩) z.b.bs.length z.cb,.slice (some ⟨z.gl,0,none⟩) z.b.ls.length z.cl,.slice (some ⟨z.gt,0,none⟩) z.b.ts.length z.ct,.int .i64 z.b.lot,.int .i64 sg,.int .i64 ct]) rfl hHeld ?_
    refine zT 3 35 (.int .i64 k) rfl hHeld ?_
    try simp only[Act.put,zA,zB,zC]
    refine wpAnyH_ready (rs:=[2,8]) (by kernel_rfl) (by simp) ?_
    refine AllReadyH.cons rfl (fun K hK=>?_) (AllReadyH.cons rfl (fun K hK=>?_) AllReadyH.nil)
    ·go_simp
     go_wp2_with fail
     first|refine(SEngSv17.sSaveOf wr true x z sg ct (zu HG).r (zu HG).rb (zu HS)).mono ?_|refine(SEngSv17.sSaveOf wr.drew true x z sg ct ((zu HG).r.below (Below.refl _ _).drew) ((zu HG).rb.below (Below.refl _ _).drew) (zu HS)).mono ?_
     rintro e v1 ⟨z1,zb,rfl,oz,b6⟩
     have b7:Below wr.heap.size wr v1:=⟨b6.os,b6.tape,b6.output,b6.size,b6.block⟩
     have sv1:wr.heap.size≤v1.heap.size:=b6.size
     replace HG:=zh ((zu HG).step b7)
     replace HK:=zh ((zu HK).below b7 (zu HK).lt.2)
     replace HD:=zh ((zu HD).step b7)
     replace GX:=zh (grow_below (zu GX) b7)
     have ZE:=zh zb
     have OZ:=zh (oz.rd (by rw[zb];exact zu SMA))
     clear oz zb
     clear b7 b6
     go_wp2_with fail
     refine hK.out _ _ ⟨(zu HG).k.c0,(zu HG).k.c1,(zu HG).k.c2,(zu HG).k.c3,(zu HG).k.c4,(zu HG).k.c5,(zu HG).k.c6,(zu HG).k.c7,(zu HG).k.c8,(zu HG).k.c9,(zu HG).k.c10,(zu HD).k.c0,(zu HD).k.c1⟩ (fun hHeld=>?_)
     clear hK K
     try simp only[Act.put,zA,zB,zC]
     refine wpAnyH_ready (rs:=[4,8]) (by kernel_rfl) (by simp) ?_
     refine AllReadyH.cons rfl (fun K hK=>?_) (AllReadyH.cons rfl (fun K hK=>?_) AllReadyH.nil)
     ·go_simp
      go_wp2_with fail
      first|refine((zu SP) v1 z1 (zu HD).rd (zu OZ) (zu ZE)).mono ?_|refine((zu SP) v1 z1 (zu HD).rd (zu OZ) (zu ZE)).mono ?_
      rintro e v2 ⟨yq,hy2,rfl,oy,b6⟩
      have b7:Below v1.heap.size v1 v2:=⟨b6.os,b6.tape,b6.output,b6.size,b6.block⟩
      have sv2:v1.heap.size≤v2.heap.size:=b6.size
      replace HG:=zh ((zu HG).step b7)
      replace HK:=zh ((zu HK).below b7 (zu HK).lt.2)
      replace HD:=zh ((zu HD).step b7)
      replace GX:=zh (grow_below (zu GX) b7)
      replace OZ:=zh ((zu OZ).below b7)
      have Y2:=zh hy2
      have OYQ:=zh (show OwD v2 (u.heap.size+1) yq from row_base2 oy (by omega))
      have LY:=zh (fun(g:Nat) (e:(Value.slice yq.a yq.ps.length yq.c).ownBlock=some g)=>show v1.heap.size≤g∧g<v2.heap.size from own_lt oy e)
      clear oy hy2
      clear b7 b6
      go_wp2_with fail
      refine hK.out _ _ ⟨(zu HG).k.c0,(zu HG).k.c1,(zu HG).k.c2,(zu HG).k.c3,(zu HG).k.c4,(zu HG).k.c5,(zu HG).k.c6,(zu HG).k.c7,(zu HG).k.c8,(zu HG).k.c9,(zu HG).k.c10,(zu HD).k.c0,(zu HD).k.c1⟩ (fun hHeld=>?_)
      clear hK K
      refine zT 5 31 (.tuple #[.agg #[.int .i64 yq.room,.slice yq.a yq.ps.length yq.c],.int .i64 wc]) rfl hHeld ?_
      refine zT 6 37 (.agg #[.int .i64 yq.room,.slice yq.a yq.ps.length yq.c]) rfl hHeld ?_
      refine zT 7 38 (.int .i64 wc) rfl hHeld ?_
      try simp only[Act.put,zA,zB,zC]
      refine zR 8 rfl (fun K hK=>?_)
      go_simp
      have ba:=one_more v2 (.cells #[.int .i64 0,.slice none 0 0] 37)
      have BA:=zh (Bc.made (w:=v2) (base:=w.heap.size) (g:=v2.heap.size) (.int .i64 0) (.slice none 0 0) (zu HG).b.size rfl)
      replace HG:=zh ((zu HG).step ba)
      replace HK:=zh ((zu HK).below ba (zu HK).lt.2)
      replace HD:=zh ((zu HD).step ba)
      replace GX:=zh (grow_below (zu GX) ba)
      replace OZ:=zh ((zu OZ).below ba)
      replace OYQ:=zh ((zu OYQ).step ba)
      clear ba
      generalize hV:v2.alloc (.cells #[.int .i64 0,.slice none 0 0] 37)=v3 at *
      refine hK.out _ _ ⟨(zu HG).k.c0,(zu HG).k.c1,(zu HG).k.c2,(zu HG).k.c3,(zu HG).k.c4,(zu HG).k.c5,(zu HG).k.c6,(zu HG).k.c7,(zu HG).k.c8,(zu HG).k.c9,(zu HG).k.c10,(zu HD).k.c0,(zu HD).k.c1⟩ (fun hHeld=>?_)
      clear hK K
      try simp only[Act.put,zA,zB,zC]
      have bi:=boxed_in (y:=yq) (zu BA)
      have lk:=(zu HK).lt.2
      have ld:=(zu HD).k.lt.2
      have FF:=zh (show Eg w _ w.heap.size true x z sg ct∧Bx11 _ w.heap.size (w.heap.size+1) (.bool false) (.int .i64 0) (.slice none 0 0) (.slice none 0 0) (.slice none 0 0) (.slice none 0 0) (.slice none 0 0) (.slice none 0 0) (.int .i64 0) (.int .i64 0) (.int .i64 0)∧Vd w _ u.heap.size c∧Kd _ (v2.heap.size) yq∧OwD _ (u.heap.size+1) yq∧(yq.room,yq.ps)=(sd,sp)∧u.heap.size+1≤v2.heap.size from⟨(zu HG).kept bi.1 (by omega) (by omega) (zu HR) (zu HY),(zu HK).kept bi.1 (by simp;omega),⟨(zu HD).k.kept bi.1 (by simp;omega),fun V q=>(zu HD0).st V (grow_grow (grow_new (zu GX) bi.1 (by omega)) q)⟩,bi.2,ownD_kept (zu OYQ) bi.1 (fun h=>by have:=(zu LY) _ h;omega),zu Y2,by omega⟩)
      have f0:=(zu BA).free 0
      have f1:=(zu BA).free 1
      have b0:=(zu BA).c0
      have b1:=(zu BA).c1
      refine zR 9 rfl (fun K hK=>?_)
      go_simp
      refine hK.out _ _ ⟨(zu FF).1.k.c0,(zu FF).1.k.c1,(zu FF).1.k.c2,(zu FF).1.k.c3,(zu FF).1.k.c4,(zu FF).1.k.c5,(zu FF).1.k.c6,(zu FF).1.k.c7,(zu FF).1.k.c8,(zu FF).1.k.c9,(zu FF).1.k.c10,(zu FF).2.2.1.k.c0,(zu FF).2.2.1.k.c1⟩ (fun hHeld=>?_)
      clear hK K
      refine zT 10 11 (.int .i64 wc) rfl hHeld ?_
      try simp only[Act.put,zA,zB,zC]
      refine wpAnyH_done (by kernel_rfl) ?_ _
      exact⟨(v2.heap.size,z1,yq),rfl,FF⟩
     ·go_simp
      have ba:=one_more v1 (.cells #[.int .i64 0,.slice none 0 0] 37)
      have BA:=zh (Bc.made (w:=v1) (base:=w.heap.size) (g:=v1.heap.size) (.int .i64 0) (.slice none 0 0) (zu HG).b.size rfl)
      replace HG:=zh ((zu HG).step ba)
      replace HK:=zh ((zu HK).below ba (zu HK).lt.2)
      replace HD:=zh ((zu HD).step ba)
      replace GX:=zh (grow_below (zu GX) ba)
      replace OZ:=zh ((zu OZ).below ba)
      clear ba
      generalize hV:v1.alloc (.cells #[.int .i64 0,.slice none 0 0] 37)=v4 at *
      refine hK.out _ _ ⟨(zu HG).k.c0,(zu HG).k.c1,(zu HG).k.c2,(zu HG).k.c3,(zu HG).k.c4,(zu HG).k.c5,(zu HG).k.c6,(zu HG).k.c7,(zu HG).k.c8,(zu HG).k.c9,(zu HG).k.c10,(zu HD).k.c0,(zu HD).k.c1⟩ (fun hHeld=>?_)
      clear hK K
      try simp only[Act.put,zA,zB,zC]
      refine zR 4 rfl (fun K hK=>?_)
      go_simp
      have lbx:=(zu BA).lt.2
      go_wp2_with fail
      first|refine((zu SP) v4 z1 (zu HD).rd (zu OZ) (zu ZE)).mono ?_|refine((zu SP) v4 z1 (zu HD).rd (zu OZ) (zu ZE)).mono ?_
      rintro e v5 ⟨yq,hy2,rfl,oy,b6⟩
      have b7:Below v4.heap.size v4 v5:=⟨b6.os,b6.tape,b6.output,b6.size,b6.block⟩
      have sv5:v4.heap.size≤v5.heap.size:=b6.size
      replace HG:=zh ((zu HG).step b7)
      replace HK:=zh ((zu HK).below b7 (zu HK).lt.2)
      replace HD:=zh ((zu HD).step b7)
      replace GX:=zh (grow_below (zu GX) b7)
      replace OZ:=zh ((zu OZ).below b7)
      replace BA:=zh ((zu BA).below b7 (zu BA).lt.2)
      have Y2:=zh hy2
      have OYQ:=zh (show OwD v5 (u.heap.size+1) yq from row_base2 oy (by omega))
      have LY:=zh (fun(g:Nat) (e:(Value.slice yq.a yq.ps.length yq.c).ownBlock=some g)=>show v4.heap.size≤g∧g<v5.heap.size from own_lt oy e)
      clear oy hy2
      clear b7 b6
      go_wp2_with fail
      refine hK.out _ _ ⟨(zu HG).k.c0,(zu HG).k.c1,(zu HG).k.c2,(zu HG).k.c3,(zu HG).k.c4,(zu HG).k.c5,(zu HG).k.c6,(zu HG).k.c7,(zu HG).k.c8,(zu HG).k.c9,(zu HG).k.c10,(zu HD).k.c0,(zu HD).k.c1⟩ (fun hHeld=>?_)
      clear hK K
      refine zT 5 31 (.tuple #[.agg #[.int .i64 yq.room,.slice yq.a yq.ps.length yq.c],.int .i64 wc]) rfl hHeld ?_
      refine zT 6 37 (.agg #[.int .i64 yq.room,.slice yq.a yq.ps.length yq.c]) rfl hHeld ?_
      refine zT 7 38 (.int .i64 wc) rfl hHeld ?_
      try simp only[Act.put,zA,zB,zC]
      have bi:=boxed_in (y:=yq) (zu BA)
      have lk:=(zu HK).lt.2
      have ld:=(zu HD).k.lt.2
      have FF:=zh (show Eg w _ w.heap.size true x z sg ct∧Bx11 _ w.heap.size (w.heap.size+1) (.bool false) (.int .i64 0) (.slice none 0 0) (.slice none 0 0) (.slice none 0 0) (.slice none 0 0) (.slice none 0 0) (.slice none 0 0) (.int .i64 0) (.int .i64 0) (.int .i64 0)∧Vd w _ u.heap.size c∧Kd _ (v1.heap.size) yq∧OwD _ (u.heap.size+1) yq∧(yq.room,yq.ps)=(sd,sp)∧u.heap.size+1≤v1.heap.size from⟨(zu HG).kept bi.1 (by omega) (by omega) (zu HR) (zu HY),(zu HK).kept bi.1 (by simp;omega),⟨(zu HD).k.kept bi.1 (by simp;omega),fun V q=>(zu HD0).st V (grow_grow (grow_new (zu GX) bi.1 (by omega)) q)⟩,bi.2,ownD_kept (zu OYQ) bi.1 (fun h=>by have:=(zu LY) _ h;omega),zu Y2,by omega⟩)
      have f0:=(zu BA).free 0
      have f1:=(zu BA).free 1
      have b0:=(zu BA).c0
      have b1:=(zu BA).c1
      refine zR 9 rfl (fun K hK=>?_)
      go_simp
      refine hK.out _ _ ⟨(zu FF).1.k.c0,(zu FF).1.k.c1,(zu FF).1.k.c2,(zu FF).1.k.c3,(zu FF).1.k.c4,(zu FF).1.k.c5,(zu FF).1.k.c6,(zu FF).1.k.c7,(zu FF).1.k.c8,(zu FF).1.k.c9,(zu FF).1.k.c10,(zu FF).2.2.1.k.c0,(zu FF).2.2.1.k.c1⟩ (fun hHeld=>?_)
      clear hK K
      refine zT 10 11 (.int .i64 wc) rfl hHeld ?_
      try simp only[Act.put,zA,zB,zC]
      refine wpAnyH_done (by kernel_rfl) ?_ _
      exact⟨(v1.heap.size,z1,yq),rfl,FF⟩
    ·go_simp
     have ba:=one_more wr (.cells #[.int .i64 0,.slice none 0 0] 37)
     have BA:=zh (Bc.made (w:=wr) (base:=w.heap.size) (g:=wr.heap.size) (.int .i64 0) (.slice none 0 0) (zu HG).b.size rfl)
     replace HG:=zh ((zu HG).step ba)
     replace HK:=zh ((zu HK).below ba (zu HK).lt.2)
     replace HD:=zh ((zu HD).step ba)
     replace GX:=zh (grow_below (zu GX) ba)
     clear ba
     generalize hV:wr.alloc (.cells #[.int .i64 0,.slice none 0 0] 37)=v6 at *
     refine hK.out _ _ ⟨(zu HG).k.c0,(zu HG).k.c1,(zu HG).k.c2,(zu HG).k.c3,(zu HG).k.c4,(zu HG).k.c5,(zu HG).k.c6,(zu HG).k.c7,(zu HG).k.c8,(zu HG).k.c9,(zu HG).k.c10,(zu HD).k.c0,(zu HD).k.c1⟩ (fun hHeld=>?_)
     clear hK K
     try simp only[Act.put,zA,zB,zC]
     refine zR 2 rfl (fun K hK=>?_)
     go_simp
     have lbx:=(zu BA).lt.2
     go_wp2_with fail
     first|refine(SEngSv17.sSaveOf v6 true x z sg ct (zu HG).r (zu HG).rb (zu HS)).mono ?_|refine(SEngSv17.sSaveOf v6.drew true x z sg ct ((zu HG).r.below (Below.refl _ _).drew) ((zu HG).rb.below (Below.refl _ _).drew) (zu HS)).mono ?_
     rintro e v7 ⟨z1,zb,rfl,oz,b6⟩
     have b7:Below v6.heap.size v6 v7:=⟨b6.os,b6.tape,b6.output,b6.size,b6.block⟩
     have sv7:v6.heap.size≤v7.heap.size:=b6.size
     replace HG:=zh ((zu HG).step b7)
     replace HK:=zh ((zu HK).below b7 (zu HK).lt.2)
     replace HD:=zh ((zu HD).step b7)
     replace GX:=zh (grow_below (zu GX) b7)
     replace BA:=zh ((zu BA).below b7 (zu BA).lt.2)
     have ZE:=zh zb
     have OZ:=zh (oz.rd (by rw[zb];exact zu SMA))
     clear oz zb
     clear b7 b6
     go_wp2_with fail
     refine hK.out _ _ ⟨(zu HG).k.c0,(zu HG).k.c1,(zu HG).k.c2,(zu HG).k.c3,(zu HG).k.c4,(zu HG).k.c5,(zu HG).k.c6,(zu HG).k.c7,(zu HG).k.c8,(zu HG).k.c9,(zu HG).k.c10,(zu HD).k.c0,(zu HD).k.c1⟩ (fun hHeld=>?_)
     clear hK K
     try simp only[Act.put,zA,zB,zC]
     refine zR 4 rfl (fun K hK=>?_)
     go_simp
     have lbx:=(zu BA).lt.2
     go_wp2_with fail
     first|refine((zu SP) v7 z1 (zu HD).rd (zu OZ) (zu ZE)).mono ?_|refine((zu SP) v7 z1 (zu HD).rd (zu OZ) (zu ZE)).mono ?_
     rintro e v8 ⟨yq,hy2,rfl,oy,b6⟩
     have b7:Below v7.heap.size v7 v8:=⟨b6.os,b6.tape,b6.output,b6.size,b6.block⟩
     have sv8:v7.heap.size≤v8.heap.size:=b6.size
     replace HG:=zh ((zu HG).step b7)
     replace HK:=zh ((zu HK).below b7 (zu HK).lt.2)
     replace HD:=zh ((zu HD).step b7)
     replace GX:=zh (grow_below (zu GX) b7)
     replace OZ:=zh ((zu OZ).below b7)
     replace BA:=zh ((zu BA).below b7 (zu BA).lt.2)
     have Y2:=zh hy2
     have OYQ:=zh (show OwD v8 (u.heap.size+1) yq from row_base2 oy (by omega))
     have LY:=zh (fun(g:Nat) (e:(Value.slice yq.a yq.ps.length yq.c).ownBlock=some g)=>show v7.heap.size≤g∧g<v8.heap.size from own_lt oy e)
     clear oy hy2
     clear b7 b6
     go_wp2_with fail
     refine hK.out _ _ ⟨(zu HG).k.c0,(zu HG).k.c1,(zu HG).k.c2,(zu HG).k.c3,(zu HG).k.c4,(zu HG).k.c5,(zu HG).k.c6,(zu HG).k.c7,(zu HG).k.c8,(zu HG).k.c9,(zu HG).k.c10,(zu HD).k.c0,(zu HD).k.c1⟩ (fun hHeld=>?_)
     clear hK K
     refine zT 5 31 (.tuple #[.agg #[.int .i64 yq.room,.slice yq.a yq.ps.length yq.c],.int .i64 wc]) rfl hHeld ?_
     refine zT 6 37 (.agg #[.int .i64 yq.room,.slice yq.a yq.ps.length yq.c]) rfl hHeld ?_
     refine zT 7 38 (.int .i64 wc) rfl hHeld ?_
     try simp only[Act.put,zA,zB,zC]
     have bi:=boxed_in (y:=yq) (zu BA)
     have lk:=(zu HK).lt.2
     have ld:=(zu HD).k.lt.2
     have FF:=zh (show Eg w _ w.heap.size true x z sg ct∧Bx11 _ w.heap.size (w.heap.size+1) (.bool false) (.int .i64 0) (.slice none 0 0) (.slice none 0 0) (.slice none 0 0) (.slice none 0 0) (.slice none 0 0) (.slice none 0 0) (.int .i64 0) (.int .i64 0) (.int .i64 0)∧Vd w _ u.heap.size c∧Kd _ (wr.heap.size) yq∧OwD _ (u.heap.size+1) yq∧(yq.room,yq.ps)=(sd,sp)∧u.heap.size+1≤wr.heap.size from⟨(zu HG).kept bi.1 (by omega) (by omega) (zu HR) (zu HY),(zu HK).kept bi.1 (by simp;omega),⟨(zu HD).k.kept bi.1 (by simp;omega),fun V q=>(zu HD0).st V (grow_grow (grow_new (zu GX) bi.1 (by omega)) q)⟩,bi.2,ownD_kept (zu OYQ) bi.1 (fun h=>by have:=(zu LY) _ h;omega),zu Y2,by omega⟩)
     have f0:=(zu BA).free 0
     have f1:=(zu BA).free 1
     have b0:=(zu BA).c0
     have b1:=(zu BA).c1
     refine zR 9 rfl (fun K hK=>?_)
     go_simp
     refine hK.out _ _ ⟨(zu FF).1.k.c0,(zu FF).1.k.c1,(zu FF).1.k.c2,(zu FF).1.k.c3,(zu FF).1.k.c4,(zu FF).1.k.c5,(zu FF).1.k.c6,(zu FF).1.k.c7,(zu FF).1.k.c8,(zu FF).1.k.c9,(zu FF).1.k.c10,(zu FF).2.2.1.k.c0,(zu FF).2.2.1.k.c1⟩ (fun hHeld=>?_)
     clear hK K
     refine zT 10 11 (.int .i64 wc) rfl hHeld ?_
     try simp only[Act.put,zA,zB,zC]
     refine wpAnyH_done (by kernel_rfl) ?_ _
     exact⟨(wr.heap.size,z1,yq),rfl,FF⟩
  ·have hend:=zh (show(c.room,c.ps)=tot from by
    have e:N-k=0:=by omega
    have h:=zu HE
    rw[e] at h
    exact h)
   clear HE
   have k3:(k:Int)<steps→up=true→¬steps≤4:=fun h1 h2 h=>t (((zu RI) k hk).2 ⟨h1,h2,h⟩)
   by_cases k1:(k:Int)<steps
   cases up
   clear k3
   rotate_left
   replace k3:=k3 k1 rfl
   rotate_left
   clear k3
   rotate_left
   all_goals
    obtain⟨c0,c1,c2,c3,c4,c5,c6,c7,c8,c9,c10⟩:=(zu HG).k.cs
    have lt:=(zu HG).k.lt.2
    have e0:=(zu HD).k.c0
    have e1:=(zu HD).k.c1
    go_wp2_with fail
    refine((zu DN) _ c (zu HG).r (zu HG).rb (zu HD).rd zc (zu hend)).mono ?_
    rintro e u9 ⟨x1,y1,hx1,hy1,rfl,ox,oy,b9⟩
    have G9:=zh ((zu HG).step b9)
    have K9:=zh ((zu HK).below b9 (zu HK).lt.2)
    have OX:=zh ox
    have OY:=zh oy
    have HX:=zh hx1
    have HYY:=zh hy1
    have lk:=(zu HK).lt.2
    clear b9 ox oy hx1 hy1
    clear c0 c1 c2 c3 c4 c5 c6 c7 c8 c9 c10 lt e0 e1
    obtain⟨⟨ru,rd,rb,rs,rt⟩,rc⟩:=dd
    obtain⟨U,hU⟩:∃U,(((((((((((u9).setCell ⟨w.heap.size+1,0,none⟩ (.bool ru)).setCell ⟨w.heap.size+1,1,none⟩ (.int .i64 x1.room)).setCell ⟨w.heap.size+1,2,none⟩ (.slice x1.a x1.ps.length x1.c)).setCell ⟨w.heap.size+1,3,none⟩ (.slice y1.aa y1.b.ac.length y1.ca)).setCell ⟨w.heap.size+1,4,none⟩ (.slice y1.ai y1.b.ic.length y1.ci)).setCell ⟨w.heap.size+1,5,none⟩ (.slice y1.ab y1.b.bs.length y1.cb)).setCell ⟨w.heap.size+1,6,none⟩ (.slice y1.al y1.b.ls.length y1.cl)).setCell ⟨w.heap.size+1,7,none⟩ (.slice y1.ats y1.b.ts.length y1.ct)).setCell ⟨w.heap.size+1,8,none⟩ (.int .i64 y1.b.lot)).setCell ⟨w.heap.size+1,9,none⟩ (.int .i64 rs)).setCell ⟨w.heap.size+1,10,none⟩ (.int .i64 rt)=U:=⟨_,rfl⟩
    have EN:=zh (show Below w.heap.size w U∧Bx11 U w.heap.size (w.heap.size+1) (.bool ru) (.int .i64 x1.room) (.slice x1.a x1.ps.length x1.c) (.slice y1.aa y1.b.ac.length y1.ca) (.slice y1.ai y1.b.ic.length y1.ci) (.slice y1.ab y1.b.bs.length y1.cb) (.slice y1.al y1.b.ls.length y1.cl) (.slice y1.ats y1.b.ts.length y1.ct) (.int .i64 y1.b.lot) (.int .i64 rs) (.int .i64 rt)∧OwD U w.heap.size x1∧OwV U w.heap.size y1∧u9.grownBy U (some (w.heap.size+1)) from by subst hU;exact ended17 (w:=w) (x:=x1) (y:=y1) ru rs rt (zu G9).b (zu K9) (zu OX) (zu OY) (by omega))
    replace hU:=zh hU
    obtain⟨f0,f1,f2,f3,f4,f5,f6,f7,f8,f9,f10⟩:=(zu K9).fs
    obtain⟨b0,b1,b2,b3,b4,b5,b6,b7,b8,b9,b10⟩:=(zu K9).cs
    go_wp2
    clear f0 b0 f1 b1 f2 b2 f3 b3 f4 b4 f5 b5 f6 b6 f7 b7 f8 b8 f9 b9 f10 b10
    rw[zu hU]
    clear hU
    have r0:=(zu EN).2.1
    obtain⟨q0,q1,q2,q3,q4,q5,q6,q7,q8,q9,q10⟩:=r0.cs
    try rw[Exit.noGoto_ret]
    refine bodyPost_ret (v:= .tuple #[.agg #[.bool ru,.int .i64 x1.room,.slice x1.a x1.ps.length x1.c,.slice y1.aa y1.b.ac.length y1.ca,.slice y1.ai y1.b.ic.length y1.ci,.slice y1.ab y1.b.bs.length y1.cb,.slice y1.al y1.b.ls.length y1.cl,.slice y1.ats y1.b.ts.length y1.ct,.int .i64 y1.b.lot,.int .i64 rs,.int .i64 rt],.int .i64 rc]) (by simp[results,Tryz.results5,go_sem,q0,q1,q2,q3,q4,q5,q6,q7,q8,q9,q10]) rfl ?_
    rw[zu E]
    exact⟨x1,y1,zu HX,zu HYY,rfl,(zu EN).2.2.1,(zu EN).2.2.2.1,(zu EN).1⟩
end SEngTs17
end Go.Proofs.YtppkkmaoaiopaaaGreat
