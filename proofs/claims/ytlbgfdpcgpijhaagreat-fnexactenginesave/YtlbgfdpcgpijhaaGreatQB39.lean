/- Texts of one proof. -/
import Derived.Test.YtlbgfdpcgpijhaaGreatQB38
open Go.ChangeShapes Go.WideShapes Go.ChangeAt Go.RowKit
set_option linter.unusedVariables false
set_option linter.unusedSimpArgs false
set_option maxRecDepth 100000
set_option maxHeartbeats 32000000
namespace Go.Proofs.YtlbgfdpcgpijhaaGreat
namespace SEngSa17
open Fil14 OpensF14 DiskH14 DkH14 SDk14 SOk14 SRd14 SCom14 Law14 EBx17 EFin17 SEngOk17 SEngSv17 LawW16 BMemV13 VB13
open BMem (Bx Rd Ow)
open Bks (Bk Ok)
open BHelp (Ix)
open Lots (Says)
open SegP15 (okS)
open SSave16 (saveD)
open SWrite16 (writeD)
noncomputable def saveE (v vb up:Bool) (room:Int) (ps:List TF) (b:Bk) (sg ct:Int):PE×Int:=if v=true then(if up=true then(if(writeD room ps (saveD ((sg+1)%20) b vb)).2=0 then((true,(writeD room ps (saveD ((sg+1)%20) b vb)).1,b,(sg+1)%20,0),0) else((up,(room,ps),b,sg,ct),5)) else((up,(room,ps),b,sg,ct),2)) else(noE,1)
theorem sEngineSave(w:World)(up:Bool)(x:Dx)(z:Bx)(sg ct:Int)(vb v:Bool)(hr:RdD w x)(hz:sumZ x.ps≤1048576)(hy:Rd w z)(hb:Says vb (Ok z.b))(hv:Says v (OkE up x.room x.ps z.b sg ct)):
  Calls Tryz.prog 17 #[.agg #[.bool up,.int .i64 x.room,.slice x.a x.ps.length x.c,.slice (some ⟨z.ga,0,none⟩) z.b.ac.length z.ca,.slice (some ⟨z.gi,0,none⟩) z.b.ic.length z.ci,.slice (some ⟨z.gb,0,none⟩) z.b.bs.length z.cb,.slice (some ⟨z.gl,0,none⟩) z.b.ls.length z.cl,.slice (some ⟨z.gt,0,none⟩) z.b.ts.length z.ct,.int .i64 z.b.lot,.int .i64 sg,.int .i64 ct]] w (ToldE (saveE v vb up x.room x.ps z.b sg ct) w):=by
 have GW:=zh ((Eg.made hr hy (Below.refl _ _) up sg ct).step (one_more _ (.cells #[.bool false,.int .i64 0,.slice none 0 0,.slice none 0 0,.slice none 0 0,.slice none 0 0,.slice none 0 0,.slice none 0 0,.int .i64 0,.int .i64 0,.int .i64 0] 47)))
 have KW:=zh (Bx11.made (w:=w.alloc (.cells #[.bool up,.int .i64 x.room,.slice x.a x.ps.length x.c,.slice (some ⟨z.ga,0,none⟩) z.b.ac.length z.ca,.slice (some ⟨z.gi,0,none⟩) z.b.ic.length z.ci,.slice (some ⟨z.gb,0,none⟩) z.b.bs.length z.cb,.slice (some ⟨z.gl,0,none⟩) z.b.ls.length z.cl,.slice (some ⟨z.gt,0,none⟩) z.b.ts.length z.ct,.int .i64 z.b.lot,.int .i64 sg,.int .i64 ct] 47)) (base:=w.heap.size) (g:=w.heap.size+1) (.bool false) (.int .i64 0) (.slice none 0 0) (.slice none 0 0) (.slice none 0 0) (.slice none 0 0) (.slice none 0 0) (.slice none 0 0) (.int .i64 0) (.int .i64 0) (.int .i64 0) (by simp) (by simp))
 have ws:((w.alloc (.cells #[.bool up,.int .i64 x.room,.slice x.a x.ps.length x.c,.slice (some ⟨z.ga,0,none⟩) z.b.ac.length z.ca,.slice (some ⟨z.gi,0,none⟩) z.b.ic.length z.ci,.slice (some ⟨z.gb,0,none⟩) z.b.bs.length z.cb,.slice (some ⟨z.gl,0,none⟩) z.b.ls.length z.cl,.slice (some ⟨z.gt,0,none⟩) z.b.ts.length z.ct,.int .i64 z.b.lot,.int .i64 sg,.int .i64 ct] 47)).alloc (.cells #[.bool false,.int .i64 0,.slice none 0 0,.slice none 0 0,.slice none 0 0,.slice none 0 0,.slice none 0 0,.slice none 0 0,.int .i64 0,.int .i64 0,.int .i64 0] 47)).heap.size=w.heap.size+2:=by simp
 have EO:=zh (fun u (h:RdD u x) (k:Rd u z)=>sEngineOk u up x z sg ct vb v h hz k hb hv)
 have WR:=zh (fun u (y:Bx) f (h:RdD u x) (k:Rd u y) (q:y.b=z.b)=>SWrite16.sSaveWrite u x y f vb h hz k (by rw[q];exact hb))
 have HV:=zh (show v=true↔OkE up x.room x.ps z.b sg ct from hv)
 have HR:=zh hr
 have HY:=zh hy
 have RE:=zh (show saveE v vb up x.room x.ps z.b sg ct=if v=true then(if up=true then(if(writeD x.room x.ps (saveD ((sg+1)%20) z.b vb)).2=0 then((true,(writeD x.room x.ps (saveD ((sg+1)%20) z.b vb)).1,z.b,(sg+1)%20,0),0) else((up,(x.room,x.ps),z.b,sg,ct),5)) else((up,(x.room,x.ps),z.b,sg,ct),2)) else(noE,1) from rfl)
 generalize saveE v vb up x.room x.ps z.b sg ct=rr at *
 clear hr hy hb hv
 obtain⟨c0,c1,c2,c3,c4,c5,c6,c7,c8,c9,c10⟩:=(zu GW).k.cs
 have lt:=(zu GW).k.lt.2
 go_enter Tryz.func17,Tryz.ntmps17
 go_wp2_with fail
 generalize (w.alloc (.cells #[.bool up,.int .i64 x.room,.slice x.a x.ps.length x.c,.slice (some ⟨z.ga,0,none⟩) z.b.ac.length z.ca,.slice (some ⟨z.gi,0,none⟩) z.b.ic.length z.ci,.slice (some ⟨z.gb,0,none⟩) z.b.bs.length z.cb,.slice (some ⟨z.gl,0,none⟩) z.b.ls.length z.cl,.slice (some ⟨z.gt,0,none⟩) z.b.ts.length z.ct,.int .i64 z.b.lot,.int .i64 sg,.int .i64 ct] 47)).alloc (.cells #[.bool false,.int .i64 0,.slice none 0 0,.slice none 0 0,.slice none 0 0,.slice none 0 0,.slice none 0 0,.slice none 0 0,.int .i64 0,.int .i64 0,.int .i64 0] 47)=W at *
 refine(zu EO _ (zu GW).r (zu GW).rb).mono ?_
 rintro e u ⟨rfl,b1⟩
 have G1:=zh ((zu GW).step b1)
 have K1:=zh ((zu KW).below b1 (zu KW).lt.2)
 have us:=b1.size
 rw[ws] at us
 clear b1 GW KW EO ws
 clear c0 c1 c2 c3 c4 c5 c6 c7 c8 c9 c10 lt
 cases v with
 |false=>
  have E:=zh (show rr=(noE,1) by rw[zu RE,if_neg (show ¬(false=true) by simp)])
  clear RE HV WR
  obtain⟨U,hU⟩:∃U,(((((((((((u).setCell ⟨w.heap.size+1,0,none⟩ (.bool false)).setCell ⟨w.heap.size+1,1,none⟩ (.int .i64 0)).setCell ⟨w.heap.size+1,2,none⟩ (.slice none 0 0)).setCell ⟨w.heap.size+1,3,none⟩ (.slice none 0 0)).setCell ⟨w.heap.size+1,4,none⟩ (.slice none 0 0)).setCell ⟨w.heap.size+1,5,none⟩ (.slice none 0 0)).setCell ⟨w.heap.size+1,6,none⟩ (.slice none 0 0)).setCell ⟨w.heap.size+1,7,none⟩ (.slice none 0 0)).setCell ⟨w.heap.size+1,8,none⟩ (.int .i64 0)).setCell ⟨w.heap.size+1,9,none⟩ (.int .i64 0)).setCell ⟨w.heap.size+1,10,none⟩ (.int .i64 0)=U:=⟨_,rfl⟩
  have EN:=zh (show Below w.heap.size w U∧Bx11 U w.heap.size (w.heap.size+1) (.bool false) (.int .i64 0) (.slice none 0 0) (.slice none 0 0) (.slice none 0 0) (.slice none 0 0) (.slice none 0 0) (.slice none 0 0) (.int .i64 0) (.int .i64 0) (.int .i64 0)∧OwD U w.heap.size noD∧OwV U w.heap.size noI∧u.grownBy U (some (w.heap.size+1)) from by subst hU;exact ended17 (w:=w) (x:=noD) (y:=noI) false 0 0 (zu G1).b (zu K1) (ownD_no _ (w.heap.size+2)) (ownV_no _ _) (by omega))
  replace hU:=zh hU
  obtain⟨f0,f1,f2,f3,f4,f5,f6,f7,f8,f9,f10⟩:=(zu K1).fs
  obtain⟨b0,b1,b2,b3,b4,b5,b6,b7,b8,b9,b10⟩:=(zu K1).cs
  go_wp2
  clear f0 b0 f1 b1 f2 b2 f3 b3 f4 b4 f5 b5 f6 b6 f7 b7 f8 b8 f9 b9 f10 b10
  rw[zu hU]
  clear hU
  have r0:=(zu EN).2.1
  obtain⟨q0,q1,q2,q3,q4,q5,q6,q7,q8,q9,q10⟩:=r0.cs
  refine bodyPost_ret (v:= .tuple #[.agg #[.bool false,.int .i64 0,.slice none 0 0,.slice none 0 0,.slice none 0 0,.slice none 0 0,.slice none 0 0,.slice none 0 0,.int .i64 0,.int .i64 0,.int .i64 0],.int .i64 1]) (by simp[results,Tryz.results17,go_sem,q0,q1,q2,q3,q4,q5,q6,q7,q8,q9,q10]) rfl ?_
  rw[zu E]
  exact⟨noD,noI,rfl,rfl,rfl,(zu EN).2.2.1,(zu EN).2.2.2.1,(zu EN).1⟩
 |true=>
 cases up with
 |false=>
  have E:=zh (show rr=((false,(x.room,x.ps),z.b,sg,ct),2) by rw[zu RE,if_pos (show true=true from rfl),if_neg (show ¬(false=true) by simp)])
  clear RE HV WR
  obtain⟨c0,c1,c2,c3,c4,c5,c6,c7,c8,c9,c10⟩:=(zu G1).k.cs
  have lt:=(zu G1).k.lt.2
  go_wp2_with fail
  refine(SEngCp17.sCopyE _ false x z sg ct (zu G1).r (zu G1).rb).mono ?_
  rintro e u9 ⟨x1,y1,hx1,hy1,rfl,ox,oy,b9⟩
  have G9:=zh ((zu G1).step b9)
  have K9:=zh ((zu K1).below b9 (zu K1).lt.2)
  have OX:=zh ox
  have OY:=zh oy
  have HX:=zh hx1
  have HYY:=zh hy1
  have lk:=(zu K1).lt.2
  clear b9 ox oy hx1 hy1
  clear c0 c1 c2 c3 c4 c5 c6 c7 c8 c9 c10 lt
  obtain⟨U,hU⟩:∃U,(((((((((((u9).setCell ⟨w.heap.size+1,0,none⟩ (.bool false)).setCell ⟨w.heap.size+1,1,none⟩ (.int .i64 x1.room)).setCell ⟨w.heap.size+1,2,none⟩ (.slice x1.a x1.ps.length x1.c)).setCell ⟨w.heap.size+1,3,none⟩ (.slice y1.aa y1.b.ac.length y1.ca)).setCell ⟨w.heap.size+1,4,none⟩ (.slice y1.ai y1.b.ic.length y1.ci)).setCell ⟨w.heap.size+1,5,none⟩ (.slice y1.ab y1.b.bs.length y1.cb)).setCell ⟨w.heap.size+1,6,none⟩ (.slice y1.al y1.b.ls.length y1.cl)).setCell ⟨w.heap.size+1,7,none⟩ (.slice y1.ats y1.b.ts.length y1.ct)).setCell ⟨w.heap.size+1,8,none⟩ (.int .i64 y1.b.lot)).setCell ⟨w.heap.size+1,9,none⟩ (.int .i64 sg)).setCell ⟨w.heap.size+1,10,none⟩ (.int .i64 ct)=U:=⟨_,rfl⟩
  have EN:=zh (show Below w.heap.size w U∧Bx11 U w.heap.size (w.heap.size+1) (.bool false) (.int .i64 x1.room) (.slice x1.a x1.ps.length x1.c) (.slice y1.aa y1.b.ac.length y1.ca) (.slice y1.ai y1.b.ic.length y1.ci) (.slice y1.ab y1.b.bs.length y1.cb) (.slice y1.al y1.b.ls.length y1.cl) (.slice y1.ats y1.b.ts.length y1.ct) (.int .i64 y1.b.lot) (.int .i64 sg) (.int .i64 ct)∧OwD U w.heap.size x1∧OwV U w.heap.size y1∧u9.grownBy U (some (w.heap.size+1)) from by subst hU;exact ended17 (w:=w) (x:=x1) (y:=y1) false sg ct (zu G9).b (zu K9) (zu OX) (zu OY) (by omega))
  replace hU:=zh hU
  obtain⟨f0,f1,f2,f3,f4,f5,f6,f7,f8,f9,f10⟩:=(zu K9).fs
  obtain⟨b0,b1,b2,b3,b4,b5,b6,b7,b8,b9,b10⟩:=(zu K9).cs
  go_wp2
  clear f0 b0 f1 b1 f2 b2 f3 b3 f4 b4 f5 b5 f6 b6 f7 b7 f8 b8 f9 b9 f10 b10
  rw[zu hU]
  clear hU
  have r0:=(zu EN).2.1
  obtain⟨q0,q1,q2,q3,q4,q5,q6,q7,q8,q9,q10⟩:=r0.cs
  refine bodyPost_ret (v:= .tuple #[.agg #[.bool false,.int .i64 x1.room,.slice x1.a x1.ps.length x1.c,.slice y1.aa y1.b.ac.length y1.ca,.slice y1.ai y1.b.ic.length y1.ci,.slice y1.ab y1.b.bs.length y1.cb,.slice y1.al y1.b.ls.length y1.cl,.slice y1.ats y1.b.ts.length y1.ct,.int .i64 y1.b.lot,.int .i64 sg,.int .i64 ct],.int .i64 2]) (by simp[results,Tryz.results17,go_sem,q0,q1,q2,q3,q4,q5,q6,q7,q8,q9,q10]) rfl ?_
  rw[zu E]
  exact⟨x1,y1,zu HX,zu HYY,rfl,(zu EN).2.2.1,(zu EN).2.2.2.1,(zu EN).1⟩
 |true=>
 have HS:=zh (show 0≤sg∧sg≤19 from of_decide_eq_true (((zu HV).1 rfl).2.1 rfl).2.1)
 obtain⟨wr,hwr⟩:∃wr,writeD x.room x.ps (saveD ((sg+1)%20) z.b vb)=wr:=⟨_,rfl⟩
 have RW:=zh (show rr=if wr.2=0 then((true,wr.1,z.b,(sg+1)%20,0),0) else((true,(x.room,x.ps),z.b,sg,ct),5) by rw[zu RE,if_pos (show true=true from rfl),if_pos (show true=true from rfl),hwr])
 have WS:=zh (fun u (y:Bx) (h:RdD u x) (k:Rd u y) (q:y.b=z.b)=>show Calls Tryz.prog 45 #[.agg #[.int .i64 x.room,.slice x.a x.ps.length x.c],.agg #[.int .i64 ((sg+1)%20),.slice (some ⟨y.ga,0,none⟩) y.b.ac.length y.ca,.slice (some ⟨y.gi,0,none⟩) y.b.ic.length y.ci,.slice (some ⟨y.gb,0,none⟩) y.b.bs.length y.cb,.slice (some ⟨y.gl,0,none⟩) y.b.ls.length y.cl,.slice (some ⟨y.gt,0,none⟩) y.b.ts.length y.ct,.int .i64 y.b.lot]] u (ToldD wr u) from by
  have this:=(zu WR) u y ((sg+1)%20) h k q
  have e:writeD x.room x.ps (saveD ((sg+1)%20) y.b vb)=wr:=by rw[q];exact hwr
  rw[e] at this
  exact this)
 have SMA:=zh (show BMem.Small z.b from⟨(zu HY).na,(zu HY).ni,(zu HY).nb,(zu HY).nl,(zu HY).nt⟩)
 clear RE WR hwr HV
 obtain⟨⟨wm,wp⟩,wc⟩:=wr
 have c0:=(zu G1).k.c0
 have lt:=(zu G1).k.lt.2
 go_wp2_with fail
 clear c0 lt
 refine reg_rest (α:=Nat×Bx×Dx) (fun a x0=>((((((((((a.put (some 16) (.pointer (some ⟨w.heap.size,1,none⟩))).put (some 17) (.agg #[.int .i64 x.room,.slice x.a x.ps.length x.c])).put (some 18) (.agg #[.bool true,.int .i64 x.room,.slice x.a x.ps.length x.c,.slice (some ⟨z.ga,0,none⟩) z.b.ac.length z.ca,.slice (some ⟨z.gi,0,none⟩) z.b.ic.length z.ci,.slice (some ⟨z.gb,0,none⟩) z.b.bs.length z.cb,.slice (some ⟨z.gl,0,none⟩) z.b.ls.length z.cl,.slice (some ⟨z.gt,0,none⟩) z.b.ts.length z.ct,.int .i64 z.b.lot,.int .i64 sg,.int .i64 ct])).put (some 19) (.agg #[.int .i64 ((sg+1)%20),.slice (some ⟨x0.2.1.ga,0,none⟩) x0.2.1.b.ac.length x0.2.1.ca,.slice (some ⟨x0.2.1.gi,0,none⟩) x0.2.1.b.ic.length x0.2.1.ci,.slice (some ⟨x0.2.1.gb,0,none⟩) x0.2.1.b.bs.length x0.2.1.cb,.slice (some ⟨x0.2.1.gl,0,none⟩) x0.2.1.b.ls.length x0.2.1.cl,.slice (some ⟨x0.2.1.gt,0,none⟩) x0.2.1.b.ts.length x0.2.1.ct,.int .i64 x0.2.1.b.lot])).put (some 20) (.tuple #[.agg #[.int .i64 x0.2.2.room,.slice x0.2.2.a x0.2.2.ps.length x0.2.2.c],.int .i64 wc])).put (some 15) (.tuple #[.agg #[.int .i64 x0.2.2.room,.slice x0.2.2.a x0.2.2.ps.length x0.2.2.c],.int .i64 wc])).put (some 21) (.agg #[.int .i64 x0.2.2.room,.slice x0.2.2.a x0.2.2.ps.length x0.2.2.c])).put (some 22) (.int .i64 wc)).put (some 4) (.pointer (some ⟨x0.1,0,none⟩))).put (some 5) (.int .i64 wc))) (fun(x0:Nat×Bx×Dx) U=>Hid (Eg w U w.heap.size true x z sg ct∧Bx11 U w.heap.size (w.heap.size+1) (.bool false) (.int .i64 0) (.slice none 0 0) (.slice none 0 0) (.slice none 0 0) (.slice none 0 0) (.slice none 0 0) (.slice none 0 0) (.int .i64 0) (.int .i64 0) (.int .i64 0)∧Kd U x0.1 x0.2.2∧OwD U (w.heap.size+2) x0.2.2∧(x0.2.2.room,x0.2.2.ps)=(wm,wp)∧w.heap.size+2≤x0.1)) ?_ ?_
 ·rintro⟨g8,z1,y2⟩ U hf
  have G2:=zh (zu hf).1
  have K2:=zh (zu hf).2.1
  have KD:=zh (zu hf).2.2.1
  have OD:=zh (zu hf).2.2.2.1
  have YE:=zh (zu hf).2.2.2.2.1
  have g82:=(zu hf).2.2.2.2.2
  clear hf
  simp only at KD OD YE g82
  try simp only[Act.put,zA,zB,zC]
  have us2:w.heap.size+2≤U.heap.size:=by have:=(zu KD).lt;omega
  by_cases az:wc=0
  case neg=>
   have E:=zh (show rr=((true,(x.room,x.ps),z.b,sg,ct),5) by rw[zu RW,if_neg az])
   have ab:(wc !=0)=true:=by simpa using az
   clear RW az KD OD YE
   obtain⟨c0,c1,c2,c3,c4,c5,c6,c7,c8,c9,c10⟩:=(zu G2).k.cs
   have lt:=(zu G2).k.lt.2
   go_wp2_with fail
   refine(SEngCp17.sCopyE _ true x z sg ct (zu G2).r (zu G2).rb).mono ?_
   rintro e u9 ⟨x1,y1,hx1,hy1,rfl,ox,oy,b9⟩
   have G9:=zh ((zu G2).step b9)
   have K9:=zh ((zu K2).below b9 (zu K2).lt.2)
   have OX:=zh ox
   have OY:=zh oy
   have HX:=zh hx1
   have HYY:=zh hy1
   have lk:=(zu K2).lt.2
   clear b9 ox oy hx1 hy1
   clear c0 c1 c2 c3 c4 c5 c6 c7 c8 c9 c10 lt
   obtain⟨U9,hU9⟩:∃U,(((((((((((u9).setCell ⟨w.heap.size+1,0,none⟩ (.bool true)).setCell ⟨w.heap.size+1,1,none⟩ (.int .i64 x1.room)).setCell ⟨w.heap.size+1,2,none⟩ (.slice x1.a x1.ps.length x1.c)).setCell ⟨w.heap.size+1,3,none⟩ (.slice y1.aa y1.b.ac.length y1.ca)).setCell ⟨w.heap.size+1,4,none⟩ (.slice y1.ai y1.b.ic.length y1.ci)).setCell ⟨w.heap.size+1,5,none⟩ (.slice y1.ab y1.b.bs.length y1.cb)).setCell ⟨w.heap.size+1,6,none⟩ (.slice y1.al y1.b.ls.length y1.cl)).setCell ⟨w.heap.size+1,7,none⟩ (.slice y1.ats y1.b.ts.length y1.ct)).setCell ⟨w.heap.size+1,8,none⟩ (.int .i64 y1.b.lot)).setCell ⟨w.heap.size+1,9,none⟩ (.int .i64 sg)).setCell ⟨w.heap.size+1,10,none⟩ (.int .i64 ct)=U:=⟨_,rfl⟩
   have EN:=zh (show Below w.heap.size w U9∧Bx11 U9 w.heap.size (w.heap.size+1) (.bool true) (.int .i64 x1.room) (.slice x1.a x1.ps.length x1.c) (.slice y1.aa y1.b.ac.length y1.ca) (.slice y1.ai y1.b.ic.length y1.ci) (.slice y1.ab y1.b.bs.length y1.cb) (.slice y1.al y1.b.ls.length y1.cl) (.slice y1.ats y1.b.ts.length y1.ct) (.int .i64 y1.b.lot) (.int .i64 sg) (.int .i64 ct)∧OwD U9 w.heap.size x1∧OwV U9 w.heap.size y1∧u9.grownBy U9 (some (w.heap.size+1)) from by subst hU9;exact ended17 (w:=w) (x:=x1) (y:=y1) true sg ct (zu G9).b (zu K9) (zu OX) (zu OY) (by omega))
   replace hU9:=zh hU9
   obtain⟨f0,f1,f2,f3,f4,f5,f6,f7,f8,f9,f10⟩:=(zu K9).fs
   obtain⟨b0,b1,b2,b3,b4,b5,b6,b7,b8,b9,b10⟩:=(zu K9).cs
   go_wp2
   clear f0 b0 f1 b1 f2 b2 f3 b3 f4 b4 f5 b5 f6 b6 f7 b7 f8 b8 f9 b9 f10 b10
   rw[zu hU9]
   clear hU9
   have r0:=(zu EN).2.1
   obtain⟨q0,q1,q2,q3,q4,q5,q6,q7,q8,q9,q10⟩:=r0.cs
   refine bodyPost_ret (v:= .tuple #[.agg #[.bool true,.int .i64 x1.room,.slice x1.a x1.ps.length x1.c,.slice y1.aa y1.b.ac.length y1.ca,.slice y1.ai y1.b.ic.length y1.ci,.slice y1.ab y1.b.bs.length y1.cb,.slice y1.al y1.b.ls.length y1.cl,.slice y1.ats y1.b.ts.length y1.ct,.int .i64 y1.b.lot,.int .i64 sg,.int .i64 ct],.int .i64 5]) (by simp[results,Tryz.results17,go_sem,q0,q1,q2,q3,q4,q5,q6,q7,q8,q9,q10]) rfl ?_
   rw[zu E]
   exact⟨x1,y1,zu HX,zu HYY,rfl,(zu EN).2.2.1,(zu EN).2.2.2.1,(zu EN).1⟩
  subst az
  have E:=zh (show rr=((true,(wm,wp),z.b,(sg+1)%20,0),0) by rw[zu RW,if_pos rfl])
  clear RW
  go_wp2_with fail
  refine wp_region_held_drew (S:=(fun w'=>w'.cell? ⟨g8,0,none⟩=some (.int .i64 y2.room)∧w'.cell? ⟨g8,1,none⟩=some (.slice y2.a y2.ps.length y2.c)∧w'.cell? ⟨w.heap.size,3,none⟩=some (.slice (some ⟨z.ga,0,none⟩) z.b.ac.length z.ca)∧w'.cell? ⟨w.heap.size,4,none⟩=some (.slice (some ⟨z.gi,0,none⟩) z.b.ic.length z.ci)∧w'.cell? ⟨w.heap.size,5,none⟩=some (.slice (some ⟨z.gb,0,none⟩) z.b.bs.length z.cb)∧w'.cell? ⟨w.heap.size,6,none⟩=some (.slice (some ⟨z.gl,0,none⟩) z.b.ls.length z.cl)∧w'.cell? ⟨w.heap.size,7,none⟩=some (.slice (some ⟨z.gt,0,none⟩) z.b.ts.length z.ct)∧w'.cell? ⟨w.heap.size,8,none⟩=some (.int .i64 z.b.lot)∧w'.cell? ⟨w.heap.size,9,none⟩=some (.int .i64 sg))) (by kernel_rfl) ⟨(zu KD).c0,(zu KD).c1,(zu G2).k.c3,(zu G2).k.c4,(zu G2).k.c5,(zu G2).k.c6,(zu G2).k.c7,(zu G2).k.c8,(zu G2).k.c9⟩ (fun hHeld=>?_)
  refine zT 0 27 (.agg #[.int .i64 y2.room,.slice y2.a y2.ps.length y2.c]) rfl hHeld ?_
  refine zT 1 28 (.pointer (some ⟨w.heap.size,3,none⟩)) rfl hHeld ?_
  refine zT 2 29 (.agg #[.slice (some ⟨z.ga,0,none⟩) z.b.ac.length z.ca,.slice (some ⟨z.gi,0,none⟩) z.b.ic.length z.ci,.slice (some ⟨z.gb,0,none⟩) z.b.bs.length z.cb,.slice (some ⟨z.gl,0,none⟩) z.b.ls.length z.cl,.slice (some ⟨z.gt,0,none⟩) z.b.ts.length z.ct,.int .i64 z.b.lot]) rfl hHeld ?_
  refine zT 4 31 (.pointer (some ⟨w.heap.size,9,none⟩)) rfl hHeld ?_
  refine zT 5 32 (.int .i64 sg) rfl hHeld ?_
  try simp only[Act.put,zA,zB,zC]
  refine zR 3 rfl (fun K hK=>?_)
  go_simp
  go_wp2_with fail
  first|refine(SCopy.sCopy U z (show Rd U z from(zu G2).rb)).mono ?_|refine(SCopy.sCopy U.drew z (show Rd U.drew z from(zu G2).rb.below (Below.refl _ _).drew)).mono ?_
  rintro e v1 ⟨z2,zb,rfl,oz,b6⟩
  have b7:Below U.heap.size U v1:=⟨b6.os,b6.tape,b6.output,b6.size,b6.block⟩
  have sv1:U.heap.size≤v1.heap.size:=b6.size
  replace G2:=zh ((zu G2).step b7)
  replace K2:=zh ((zu K2).below b7 (zu K2).lt.2)
  replace KD:=zh (kd_low (zu KD) b7 (zu KD).lt)
  replace OD:=zh ((zu OD).step b7)
  have ZE:=zh zb
  have OZ:=zh (show Ow v1 U.heap.size z2 from oz)
  clear oz zb
  clear b7 b6
  go_wp2_with fail
  refine hK.out _ _ ⟨(zu KD).c0,(zu KD).c1,(zu G2).k.c3,(zu G2).k.c4,(zu G2).k.c5,(zu G2).k.c6,(zu G2).k.c7,(zu G2).k.c8,(zu G2).k.c9⟩ (fun hHeld=>?_)
  clear hK K
  try simp only[Act.put,zA,zB,zC]
  refine zR 6 rfl (fun K hK=>?_)
  go_simp
  go_wp2_with fail
  first|refine(SAft17.sAfter v1 sg (zu HS)).mono ?_|refine(SAft17.sAfter v1 sg (zu HS)).mono ?_
  rintro e v2 ⟨rfl,hq⟩
  have b6:Below v1.heap.size v1 v2:=by subst hq;exact Below.refl _ _
  clear hq
  have b7:Below v1.heap.size v1 v2:=⟨b6.os,b6.tape,b6.output,b6.size,b6.block⟩
  have sv2:v1.heap.size≤v2.heap.size:=b6.size
  replace G2:=zh ((zu G2).step b7)
  replace K2:=zh ((zu K2).below b7 (zu K2).lt.2)
  replace KD:=zh (kd_low (zu KD) b7 (zu KD).lt)
  replace OD:=zh ((zu OD).step b7)
  replace OZ:=zh ((zu OZ).below b7 (Nat.le_refl _))
  clear b7 b6
  go_wp2_with fail
  refine hK.out _ _ ⟨(zu KD).c0,(zu KD).c1,(zu G2).k.c3,(zu G2).k.c4,(zu G2).k.c5,(zu G2).k.c6,(zu G2).k.c7,(zu G2).k.c8,(zu G2).k.c9⟩ (fun hHeld=>?_)
  clear hK K
  refine zT 7 34 (.agg #[.bool true,.int .i64 y2.room,.slice y2.a y2.ps.length y2.c,.slice (some ⟨z2.ga,0,none⟩) z2.b.ac.length z2.ca,.slice (some ⟨z2.gi,0,none⟩) z2.b.ic.length z2.ci,.slice (some ⟨z2.gb,0,none⟩) z2.b.bs.length z2.cb,.slice (some ⟨z2.gl,0,none⟩) z2.b.ls.length z2.cl,.slice (some ⟨z2.gt,0,none⟩) z2.b.ts.length z2.ct,.int .i64 z2.b.lot,.int .i64 ((sg+1)%20),.int .i64 0]) rfl hHeld ?_
  try simp only[Act.put,zA,zB,zC]
  have lk:=(zu K2).lt.2
  have OX:=zh (show OwD v2 (w.heap.size+2) y2 from zu OD)
  have OY:=zh (show OwV v2 (w.heap.size+2) (ixB z2) from ownV_base (SEngCp17.ow_ix (zu OZ)) (by omega))
  have EN:=zh (show Below w.heap.size w ((((((((((((v2).setCell ⟨w.heap.size+1,0,none⟩ (.bool true)).setCell ⟨w.heap.size+1,1,none⟩ (.int .i64 y2.room)).setCell ⟨w.heap.size+1,2,none⟩ (.slice y2.a y2.ps.length y2.c)).setCell ⟨w.heap.size+1,3,none⟩ (.slice (some ⟨z2.ga,0,none⟩) z2.b.ac.length z2.ca)).setCell ⟨w.heap.size+1,4,none⟩ (.slice (some ⟨z2.gi,0,none⟩) z2.b.ic.length z2.ci)).setCell ⟨w.heap.size+1,5,none⟩ (.slice (some ⟨z2.gb,0,none⟩) z2.b.bs.length z2.cb)).setCell ⟨w.heap.size+1,6,none⟩ (.slice (some ⟨z2.gl,0,none⟩) z2.b.ls.length z2.cl)).setCell ⟨w.heap.size+1,7,none⟩ (.slice (some ⟨z2.gt,0,none⟩) z2.b.ts.length z2.ct)).setCell ⟨w.heap.size+1,8,none⟩ (.int .i64 z2.b.lot)).setCell ⟨w.heap.size+1,9,none⟩ (.int .i64 ((sg+1)%20))).setCell ⟨w.heap.size+1,10,none⟩ (.int .i64 0))∧Bx11 ((((((((((((v2).setCell ⟨w.heap.size+1,0,none⟩ (.bool true)).setCell ⟨w.heap.size+1,1,none⟩ (.int .i64 y2.room)).setCell ⟨w.heap.size+1,2,none⟩ (.slice y2.a y2.ps.length y2.c)).setCell ⟨w.heap.size+1,3,none⟩ (.slice (some ⟨z2.ga,0,none⟩) z2.b.ac.length z2.ca)).setCell ⟨w.heap.size+1,4,none⟩ (.slice (some ⟨z2.gi,0,none⟩) z2.b.ic.length z2.ci)).setCell ⟨w.heap.size+1,5,none⟩ (.slice (some ⟨z2.gb,0,none⟩) z2.b.bs.length z2.cb)).setCell ⟨w.heap.size+1,6,none⟩ (.slice (some ⟨z2.gl,0,none⟩) z2.b.ls.length z2.cl)).setCell ⟨w.heap.size+1,7,none⟩ (.slice (some ⟨z2.gt,0,none⟩) z2.b.ts.length z2.ct)).setCell ⟨w.heap.size+1,8,none⟩ (.int .i64 z2.b.lot)).setCell ⟨w.heap.size+1,9,none⟩ (.int .i64 ((sg+1)%20))).setCell ⟨w.heap.size+1,10,none⟩ (.int .i64 0)) w.heap.size (w.heap.size+1) (.bool true) (.int .i64 y2.room) (.slice y2.a y2.ps.length y2.c) (.slice (some ⟨z2.ga,0,none⟩) z2.b.ac.length z2.ca) (.slice (some ⟨z2.gi,0,none⟩) z2.b.ic.length z2.ci) (.slice (some ⟨z2.gb,0,none⟩) z2.b.bs.length z2.cb) (.slice (some ⟨z2.gl,0,none⟩) z2.b.ls.length z2.cl) (.slice (some ⟨z2.gt,0,none⟩) z2.b.ts.length z2.ct) (.int .i64 z2.b.lot) (.int .i64 ((sg+1)%20)) (.int .i64 0)∧OwD ((((((((((((v2).setCell ⟨w.heap.size+1,0,none⟩ (.bool true)).setCell ⟨w.heap.size+1,1,none⟩ (.int .i64 y2.room)).setCell ⟨w.heap.size+1,2,none⟩ (.slice y2.a y2.ps.length y2.c)).setCell ⟨w.heap.size+1,3,none⟩ (.slice (some ⟨z2.ga,0,none⟩) z2.b.ac.length z2.ca)).setCell ⟨w.heap.size+1,4,none⟩ (.slice (some ⟨z2.gi,0,none⟩) z2.b.ic.length z2.ci)).setCell ⟨w.heap.size+1,5,none⟩ (.slice (some ⟨z2.gb,0,none⟩) z2.b.bs.length z2.cb)).setCell ⟨w.heap.size+1,6,none⟩ (.slice (some ⟨z2.gl,0,none⟩) z2.b.ls.length z2.cl)).setCell ⟨w.heap.size+1,7,none⟩ (.slice (some ⟨z2.gt,0,none⟩) z2.b.ts.length z2.ct)).setCell ⟨w.heap.size+1,8,none⟩ (.int .i64 z2.b.lot)).setCell ⟨w.heap.size+1,9,none⟩ (.int .i64 ((sg+1)%20))).setCell ⟨w.heap.size+1,10,none⟩ (.int .i64 0)) w.heap.size y2∧OwV ((((((((((((v2).setCell ⟨w.heap.size+1,0,none⟩ (.bool true)).setCell ⟨w.heap.size+1,1,none⟩ (.int .i64 y2.room)).setCell ⟨w.heap.size+1,2,none⟩ (.slice y2.a y2.ps.length y2.c)).setCell ⟨w.heap.size+1,3,none⟩ (.slice (some ⟨z2.ga,0,none⟩) z2.b.ac.length z2.ca)).setCell ⟨w.heap.size+1,4,none⟩ (.slice (some ⟨z2.gi,0,none⟩) z2.b.ic.length z2.ci)).setCell ⟨w.heap.size+1,5,none⟩ (.slice (some ⟨z2.gb,0,none⟩) z2.b.bs.length z2.cb)).setCell ⟨w.heap.size+1,6,none⟩ (.slice (some ⟨z2.gl,0,none⟩) z2.b.ls.length z2.cl)).setCell ⟨w.heap.size+1,7,none⟩ (.slice (some ⟨z2.gt,0,none⟩) z2.b.ts.length z2.ct)).setCell ⟨w.heap.size+1,8,none⟩ (.int .i64 z2.b.lot)).setCell ⟨w.heap.size+1,9,none⟩ (.int .i64 ((sg+1)%20))).setCell ⟨w.heap.size+1,10,none⟩ (.int .i64 0)) w.heap.size (ixB z2)∧v2.grownBy ((((((((((((v2).setCell ⟨w.heap.size+1,0,none⟩ (.bool true)).setCell ⟨w.heap.size+1,1,none⟩ (.int .i64 y2.room)).setCell ⟨w.heap.size+1,2,none⟩ (.slice y2.a y2.ps.length y2.c)).setCell ⟨w.heap.size+1,3,none⟩ (.slice (some ⟨z2.ga,0,none⟩) z2.b.ac.length z2.ca)).setCell ⟨w.heap.size+1,4,none⟩ (.slice (some ⟨z2.gi,0,none⟩) z2.b.ic.length z2.ci)).setCell ⟨w.heap.size+1,5,none⟩ (.slice (some ⟨z2.gb,0,none⟩) z2.b.bs.length z2.cb)).setCell ⟨w.heap.size+1,6,none⟩ (.slice (some ⟨z2.gl,0,none⟩) z2.b.ls.length z2.cl)).setCell ⟨w.heap.size+1,7,none⟩ (.slice (some ⟨z2.gt,0,none⟩) z2.b.ts.length z2.ct)).setCell ⟨w.heap.size+1,8,none⟩ (.int .i64 z2.b.lot)).setCell ⟨w.heap.size+1,9,none⟩ (.int .i64 ((sg+1)%20))).setCell ⟨w.heap.size+1,10,none⟩ (.int .i64 0)) (some (w.heap.size+1)) from ended17 (w:=w) (x:=y2) (y:=(ixB z2)) true ((sg+1)%20) 0 (zu G2).b (zu K2) (zu OX) (zu OY) (by omega))
  obtain⟨f0,f1,f2,f3,f4,f5,f6,f7,f8,f9,f10⟩:=(zu K2).fs
  obtain⟨b0,b1,b2,b3,b4,b5,b6,b7,b8,b9,b10⟩:=(zu K2).cs
  have kc:∀o,((((((((((((v2).setCell ⟨w.heap.size+1,0,none⟩ (.bool true)).setCell ⟨w.heap.size+1,1,none⟩ (.int .i64 y2.room)).setCell ⟨w.heap.size+1,2,none⟩ (.slice y2.a y2.ps.length y2.c)).setCell ⟨w.heap.size+1,3,none⟩ (.slice (some ⟨z2.ga,0,none⟩) z2.b.ac.length z2.ca)).setCell ⟨w.heap.size+1,4,none⟩ (.slice (some ⟨z2.gi,0,none⟩) z2.b.ic.length z2.ci)).setCell ⟨w.heap.size+1,5,none⟩ (.slice (some ⟨z2.gb,0,none⟩) z2.b.bs.length z2.cb)).setCell ⟨w.heap.size+1,6,none⟩ (.slice (some ⟨z2.gl,0,none⟩) z2.b.ls.length z2.cl)).setCell ⟨w.heap.size+1,7,none⟩ (.slice (some ⟨z2.gt,0,none⟩) z2.b.ts.length z2.ct)).setCell ⟨w.heap.size+1,8,none⟩ (.int .i64 z2.b.lot)).setCell ⟨w.heap.size+1,9,none⟩ (.int .i64 ((sg+1)%20))).setCell ⟨w.heap.size+1,10,none⟩ (.int .i64 0)).cell? ⟨w.heap.size,o,none⟩=v2.cell? ⟨w.heap.size,o,none⟩:=fun o=>App14.kcell (zu EN).2.2.2.2 o (by omega) (by omega)
  have kd:∀o,((((((((((((v2).setCell ⟨w.heap.size+1,0,none⟩ (.bool true)).setCell ⟨w.heap.size+1,1,none⟩ (.int .i64 y2.room)).setCell ⟨w.heap.size+1,2,none⟩ (.slice y2.a y2.ps.length y2.c)).setCell ⟨w.heap.size+1,3,none⟩ (.slice (some ⟨z2.ga,0,none⟩) z2.b.ac.length z2.ca)).setCell ⟨w.heap.size+1,4,none⟩ (.slice (some ⟨z2.gi,0,none⟩) z2.b.ic.length z2.ci)).setCell ⟨w.heap.size+1,5,none⟩ (.slice (some ⟨z2.gb,0,none⟩) z2.b.bs.length z2.cb)).setCell ⟨w.heap.size+1,6,none⟩ (.slice (some ⟨z2.gl,0,none⟩) z2.b.ls.length z2.cl)).setCell ⟨w.heap.size+1,7,none⟩ (.slice (some ⟨z2.gt,0,none⟩) z2.b.ts.length z2.ct)).setCell ⟨w.heap.size+1,8,none⟩ (.int .i64 z2.b.lot)).setCell ⟨w.heap.size+1,9,none⟩ (.int .i64 ((sg+1)%20))).setCell ⟨w.heap.size+1,10,none⟩ (.int .i64 0)).cell? ⟨g8,o,none⟩=v2.cell? ⟨g8,o,none⟩:=fun o=>App14.kcell (zu EN).2.2.2.2 o (zu KD).lt (by omega)
  refine zR 8 rfl (fun K hK=>?_)
  go_simp
  refine hK.out _ _ ⟨(kd 0).trans (zu KD).c0,(kd 1).trans (zu KD).c1,(kc 3).trans (zu G2).k.c3,(kc 4).trans (zu G2).k.c4,(kc 5).trans (zu G2).k.c5,(kc 6).trans (zu G2).k.c6,(kc 7).trans (zu G2).k.c7,(kc 8).trans (zu G2).k.c8,(kc 9).trans (zu G2).k.c9⟩ (fun hHeld=>?_)
  clear hK K
  refine zT 9 3 (.int .i64 0) rfl hHeld ?_
  try simp only[Act.put,zA,zB,zC]
  refine wpAnyH_done (by kernel_rfl) ?_ _
  clear f0 b0 f1 b1 f2 b2 f3 b3 f4 b4 f5 b5 f6 b6 f7 b7 f8 b8 f9 b9 f10 b10
  generalize (((((((((((v2).setCell ⟨w.heap.size+1,0,none⟩ (.bool true)).setCell ⟨w.heap.size+1,1,none⟩ (.int .i64 y2.room)).setCell ⟨w.heap.size+1,2,none⟩ (.slice y2.a y2.ps.length y2.c)).setCell ⟨w.heap.size+1,3,none⟩ (.slice (some ⟨z2.ga,0,none⟩) z2.b.ac.length z2.ca)).setCell ⟨w.heap.size+1,4,none⟩ (.slice (some ⟨z2.gi,0,none⟩) z2.b.ic.length z2.ci)).setCell ⟨w.heap.size+1,5,none⟩ (.slice (some ⟨z2.gb,0,none⟩) z2.b.bs.length z2.cb)).setCell ⟨w.heap.size+1,6,none⟩ (.slice (some ⟨z2.gl,0,none⟩) z2.b.ls.length z2.cl)).setCell ⟨w.heap.size+1,7,none⟩ (.slice (some ⟨z2.gt,0,none⟩) z2.b.ts.length z2.ct)).setCell ⟨w.heap.size+1,8,none⟩ (.int .i64 z2.b.lot)).setCell ⟨w.heap.size+1,9,none⟩ (.int .i64 ((sg+1)%20))).setCell ⟨w.heap.size+1,10,none⟩ (.int .i64 0)=U9 at *
  have r0:=(zu EN).2.1
  go_wp2
  obtain⟨q0,q1,q2,q3,q4,q5,q6,q7,q8,q9,q10⟩:=r0.cs
  refine bodyPost_ret (v:= .tuple #[.agg #[.bool true,.int .i64 y2.room,.slice y2.a y2.ps.length y2.c,.slice (some ⟨z2.ga,0,none⟩) z2.b.ac.length z2.ca,.slice (some ⟨z2.gi,0,none⟩) z2.b.ic.length z2.ci,.slice (some ⟨z2.gb,0,none⟩) z2.b.bs.length z2.cb,.slice (some ⟨z2.gl,0,none⟩) z2.b.ls.length z2.cl,.slice (some ⟨z2.gt,0,none⟩) z2.b.ts.length z2.ct,.int .i64 z2.b.lot,.int .i64 ((sg+1)%20),.int .i64 0],.int .i64 0]) (by simp[results,Tryz.results17,go_sem,q0,q1,q2,q3,q4,q5,q6,q7,q8,q9,q10]) rfl ?_
  rw[zu E]
  exact⟨y2,(ixB z2),zu YE,zu ZE,rfl,(zu EN).2.2.1,(zu EN).2.2.2.1,(zu EN).1⟩
 ·refine wp_region_held_drew (S:=(fun w'=>w'.cell? ⟨w.heap.size,0,none⟩=some (.bool true)∧w'.cell? ⟨w.heap.size,1,none⟩=some (.int .i64 x.room)∧w'.cell? ⟨w.heap.size,2,none⟩=some (.slice x.a x.ps.length x.c)∧w'.cell? ⟨w.heap.size,3,none⟩=some (.slice (some ⟨z.ga,0,none⟩) z.b.ac.length z.ca)∧w'.cell? ⟨w.heap.size,4,none⟩=some (.slice (some ⟨z.gi,0,none⟩) z.b.ic.length z.ci)∧w'.cell? ⟨w.heap.size,5,none⟩=some (.slice (some ⟨z.gb,0,none⟩) z.b.bs.length z.cb)∧w'.cell? ⟨w.heap.size,6,none⟩=some (.slice (some ⟨z.gl,0,none⟩) z.b.ls.length z.cl)∧w'.cell? ⟨w.heap.size,7,none⟩=some (.slice (some ⟨z.gt,0,none⟩) z.b.ts.length z.ct)∧w'.cell? ⟨w.heap.size,8,none⟩=some (.int .i64 z.b.lot)∧w'.cell? ⟨w.heap.size,9,none⟩=some (.int .i64 sg)∧w'.cell? ⟨w.heap.size,10,none⟩=some (.int .i64 ct))) (by kernel_rfl) ⟨(zu G1).k.c0,(zu G1).k.c1,(zu G1).k.c2,(zu G1).k.c3,(zu G1).k.c4,(zu G1).k.c5,(zu G1).k.c6,(zu G1).k.c7,(zu G1).k.c8,(zu G1).k.c9,(zu G1).k.c10⟩ (fun hHeld=>?_)
  refine zT 0 16 (.pointer (some ⟨w.heap.size,1,none⟩)) rfl hHeld ?_
  refine zT 1 17 (.agg #[.int .i64 x.room,.slice x.a x.ps.length x.c]) rfl hHeld ?_
  refine zT 2 18 (.agg #[.bool true,.int .i64 x.room,.slice x.a x.ps.length x.c,.slice (some ⟨z.ga,0,none⟩) z.b.ac.length z.ca,.slice (some ⟨z.gi,0,none⟩) z.b.ic.length z.ci,.slice (some ⟨z.gb,0,none⟩) z.b.bs.length z.cb,.slice (some ⟨z.gl,0,none⟩) z.b.ls.length z.cl,.slice (some ⟨z.gt,0,none⟩) z.b.ts.length z.ct,.int .i64 z.b.lot,.int .i64 sg,.int .i64 ct]) rfl hHeld ?_
  try simp only[Act.put,zA,zB,zC]
  refine wpAnyH_ready (rs:=[3,8]) (by kernel_rfl) (by simp) ?_
  refine AllReadyH.cons rfl (fun K hK=>?_) (AllReadyH.cons rfl (fun K hK=>?_) AllReadyH.nil)
  ·go_simp
   go_wp2_with fail
   first|refine(SEngSv17.sSaveOf u true x z sg ct (zu G1).r (zu G1).rb (zu HS)).mono ?_|refine(SEngSv17.sSaveOf u.drew true x z sg ct ((zu G1).r.below (Below.refl _ _).drew) ((zu G1).rb.below (Below.refl _ _).drew) (zu HS)).mono ?_
   rintro e v1 ⟨z1,zb,rfl,oz,b6⟩
   have b7:Below u.heap.size u v1:=⟨b6.os,b6.tape,b6.output,b6.size,b6.block⟩
   have sv1:u.heap.size≤v1.heap.size:=b6.size
   replace G1:=zh ((zu G1).step b7)
   replace K1:=zh ((zu K1).below b7 (zu K1).lt.2)
   have ZE:=zh zb
   have OZ:=zh (oz.rd (by rw[zb];exact zu SMA))
   clear oz zb
   clear b7 b6
   go_wp2_with fail
   refine hK.out _ _ ⟨(zu G1).k.c0,(zu G1).k.c1,(zu G1).k.c2,(zu G1).k.c3,(zu G1).k.c4,(zu G1).k.c5,(zu G1).k.c6,(zu G1).k.c7,(zu G1).k.c8,(zu G1).k.c9,(zu G1).k.c10⟩ (fun hHeld=>?_)
   clear hK K
   try simp only[Act.put,zA,zB,zC]
   refine wpAnyH_ready (rs:=[4,8]) (by kernel_rfl) (by simp) ?_
   refine AllReadyH.cons rfl (fun K hK=>?_) (AllReadyH.cons rfl (fun K hK=>?_) AllReadyH.nil)
   ·go_simp
    go_wp2_with fail
    first|refine((zu WS) v1 z1 (zu G1).r (zu OZ) (zu ZE)).mono ?_|refine((zu WS) v1 z1 (zu G1).r (zu OZ) (zu ZE)).mono ?_
    rintro e v2 ⟨yq,hy2,rfl,oy,b6⟩
    have b7:Below v1.heap.size v1 v2:=⟨b6.os,b6.tape,b6.output,b6.size,b6.block⟩
    have sv2:v1.heap.size≤v2.heap.size:=b6.size
    replace G1:=zh ((zu G1).step b7)
    replace K1:=zh ((zu K1).below b7 (zu K1).lt.2)
    replace OZ:=zh ((zu OZ).below b7)
    have Y2:=zh hy2
    have OYQ:=zh (show OwD v2 (w.heap.size+2) yq from row_base2 oy (by omega))
    have LY:=zh (fun(g:Nat) (e:(Value.slice yq.a yq.ps.length yq.c).ownBlock=some g)=>show v1.heap.size≤g∧g<v2.heap.size from own_lt oy e)
    clear oy hy2
    clear b7 b6
    go_wp2_with fail
    refine hK.out _ _ ⟨(zu G1).k.c0,(zu G1).k.c1,(zu G1).k.c2,(zu G1).k.c3,(zu G1).k.c4,(zu G1).k.c5,(zu G1).k.c6,(zu G1).k.c7,(zu G1).k.c8,(zu G1).k.c9,(zu G1).k.c10⟩ (fun hHeld=>?_)
    clear hK K
    refine zT 5 15 (.tuple #[.agg #[.int .i64 yq.room,.slice yq.a yq.ps.length yq.c],.int .i64 wc]) rfl hHeld ?_
    refine zT 6 21 (.agg #[.int .i64 yq.room,.slice yq.a yq.ps.length yq.c]) rfl hHeld ?_
    refine zT 7 22 (.int .i64 wc) rfl hHeld ?_
    try simp only[Act.put,zA,zB,zC]
    refine zR 8 rfl (fun K hK=>?_)
    go_simp
    have ba:=one_more v2 (.cells #[.int .i64 0,.slice none 0 0] 38)
    have BA:=zh (Bc.made (w:=v2) (base:=w.heap.size) (g:=v2.heap.size) (.int .i64 0) (.slice none 0 0) (zu G1).b.size rfl)
    replace G1:=zh ((zu G1).step ba)
    replace K1:=zh ((zu K1).below ba (zu K1).lt.2)
    replace OZ:=zh ((zu OZ).below ba)
    replace OYQ:=zh ((zu OYQ).step ba)
    clear ba
    generalize hV:v2.alloc (.cells #[.int .i64 0,.slice none 0 0] 38)=v3 at *
    refine hK.out _ _ ⟨(zu G1).k.c0,(zu G1).k.c1,(zu G1).k.c2,(zu G1).k.c3,(zu G1).k.c4,(zu G1).k.c5,(zu G1).k.c6,(zu G1).k.c7,(zu G1).k.c8,(zu G1).k.c9,(zu G1).k.c10⟩ (fun hHeld=>?_)
    clear hK K
    try simp only[Act.put,zA,zB,zC]
    have bi:=boxed_in (y:=yq) (zu BA)
    have lk:=(zu K1).lt.2
    have FF:=zh (show Eg w _ w.heap.size true x z sg ct∧Bx11 _ w.heap.size (w.heap.size+1) (.bool false) (.int .i64 0) (.slice none 0 0) (.slice none 0 0) (.slice none 0 0) (.slice none 0 0) (.slice none 0 0) (.slice none 0 0) (.int .i64 0) (.int .i64 0) (.int .i64 0)∧Kd _ (v2.heap.size) yq∧OwD _ (w.heap.size+2) yq∧(yq.room,yq.ps)=(wm,wp)∧w.heap.size+2≤v2.heap.size from⟨(zu G1).kept bi.1 (by omega) (by omega) (zu HR) (zu HY),(zu K1).kept bi.1 (by simp;omega),bi.2,ownD_kept (zu OYQ) bi.1 (fun h=>by have:=(zu LY) _ h;omega),zu Y2,by omega⟩)
    have f0:=(zu BA).free 0
    have f1:=(zu BA).free 1
    have b0:=(zu BA).c0
    have b1:=(zu BA).c1
    refine zR 9 rfl (fun K hK=>?_)
    go_simp
    refine hK.out _ _ ⟨(zu FF).1.k.c0,(zu FF).1.k.c1,(zu FF).1.k.c2,(zu FF).1.k.c3,(zu FF).1.k.c4,(zu FF).1.k.c5,(zu FF).1.k.c6,(zu FF).1.k.c7,(zu FF).1.k.c8,(zu FF).1.k.c9,(zu FF).1.k.c10⟩ (fun hHeld=>?_)
    clear hK K
    refine zT 10 5 (.int .i64 wc) rfl hHeld ?_
    try simp only[Act.put,zA,zB,zC]
    refine wpAnyH_done (by kernel_rfl) ?_ _
    exact⟨(v2.heap.size,z1,yq),rfl,FF⟩
   ·go_simp
    have ba:=one_more v1 (.cells #[.int .i64 0,.slice none 0 0] 38)
    have BA:=zh (Bc.made (w:=v1) (base:=w.heap.size) (g:=v1.heap.size) (.int .i64 0) (.slice none 0 0) (zu G1).b.size rfl)
    replace G1:=zh ((zu G1).step ba)
    replace K1:=zh ((zu K1).below ba (zu K1).lt.2)
    replace OZ:=zh ((zu OZ).below ba)
    clear ba
    generalize hV:v1.alloc (.cells #[.int .i64 0,.slice none 0 0] 38)=v4 at *
    refine hK.out _ _ ⟨(zu G1).k.c0,(zu G1).k.c1,(zu G1).k.c2,(zu G1).k.c3,(zu G1).k.c4,(zu G1).k.c5,(zu G1).k.c6,(zu G1).k.c7,(zu G1).k.c8,(zu G1).k.c9,(zu G1).k.c10⟩ (fun hHeld=>?_)
    clear hK K
    try simp only[Act.put,zA,zB,zC]
    refine zR 4 rfl (fun K hK=>?_)
    go_simp
    have lbx:=(zu BA).lt.2
    go_wp2_with fail
    first|refine((zu WS) v4 z1 (zu G1).r (zu OZ) (zu ZE)).mono ?_|refine((zu WS) v4 z1 (zu G1).r (zu OZ) (zu ZE)).mono ?_
    rintro e v5 ⟨yq,hy2,rfl,oy,b6⟩
    have b7:Below v4.heap.size v4 v5:=⟨b6.os,b6.tape,b6.output,b6.size,b6.block⟩
    have sv5:v4.heap.size≤v5.heap.size:=b6.size
    replace G1:=zh ((zu G1).step b7)
    replace K1:=zh ((zu K1).below b7 (zu K1).lt.2)
    replace OZ:=zh ((zu OZ).below b7)
    replace BA:=zh ((zu BA).below b7 (zu BA).lt.2)
    have Y2:=zh hy2
    have OYQ:=zh (show OwD v5 (w.heap.size+2) yq from row_base2 oy (by omega))
    have LY:=zh (fun(g:Nat) (e:(Value.slice yq.a yq.ps.length yq.c).ownBlock=some g)=>show v4.heap.size≤g∧g<v5.heap.size from own_lt oy e)
    clear oy hy2
    clear b7 b6
    go_wp2_with fail
    refine hK.out _ _ ⟨(zu G1).k.c0,(zu G1).k.c1,(zu G1).k.c2,(zu G1).k.c3,(zu G1).k.c4,(zu G1).k.c5,(zu G1).k.c6,(zu G1).k.c7,(zu G1).k.c8,(zu G1).k.c9,(zu G1).k.c10⟩ (fun hHeld=>?_)
    clear hK K
    refine zT 5 15 (.tuple #[.agg #[.int .i64 yq.room,.slice yq.a yq.ps.length yq.c],.int .i64 wc]) rfl hHeld ?_
    refine zT 6 21 (.agg #[.int .i64 yq.room,.slice yq.a yq.ps.length yq.c]) rfl hHeld ?_
    refine zT 7 22 (.int .i64 wc) rfl hHeld ?_
    try simp only[Act.put,zA,zB,zC]
    have bi:=boxed_in (y:=yq) (zu BA)
    have lk:=(zu K1).lt.2
    have FF:=zh (show Eg w _ w.heap.size true x z sg ct∧Bx11 _ w.heap.size (w.heap.size+1) (.bool false) (.int .i64 0) (.slice none 0 0) (.slice none 0 0) (.slice none 0 0) (.slice none 0 0) (.slice none 0 0) (.slice none 0 0) (.int .i64 0) (.int .i64 0) (.int .i64 0)∧Kd _ (v1.heap.size) yq∧OwD _ (w.heap.size+2) yq∧(yq.room,yq.ps)=(wm,wp)∧w.heap.size+2≤v1.heap.size from⟨(zu G1).kept bi.1 (by omega) (by omega) (zu HR) (zu HY),(zu K1).kept bi.1 (by simp;omega),bi.2,ownD_kept (zu OYQ) bi.1 (fun h=>by have:=(zu LY) _ h;omega),zu Y2,by omega⟩)
    have f0:=(zu BA).free 0
    have f1:=(zu BA).free 1
    have b0:=(zu BA).c0
    have b1:=(zu BA).c1
    refine zR 9 rfl (fun K hK=>?_)
    go_simp
    refine hK.out _ _ ⟨(zu FF).1.k.c0,(zu FF).1.k.c1,(zu FF).1.k.c2,(zu FF).1.k.c3,(zu FF).1.k.c4,(zu FF).1.k.c5,(zu FF).1.k.c6,(zu FF).1.k.c7,(zu FF).1.k.c8,(zu FF).1.k.c9,(zu FF).1.k.c10⟩ (fun hHeld=>?_)
    clear hK K
    refine zT 10 5 (.int .i64 wc) rfl hHeld ?_
    try simp only[Act.put,zA,zB,zC]
    refine wpAnyH_done (by kernel_rfl) ?_ _
    exact⟨(v1.heap.size,z1,yq),rfl,FF⟩
  ·go_simp
   have ba:=one_more u (.cells #[.int .i64 0,.slice none 0 0] 38)
   have BA:=zh (Bc.made (w:=u) (base:=w.heap.size) (g:=u.heap.size) (.int .i64 0) (.slice none 0 0) (zu G1).b.size rfl)
   replace G1:=zh ((zu G1).step ba)
   replace K1:=zh ((zu K1).below ba (zu K1).lt.2)
   clear ba
   generalize hV:u.alloc (.cells #[.int .i64 0,.slice none 0 0] 38)=v6 at *
   refine hK.out _ _ ⟨(zu G1).k.c0,(zu G1).k.c1,(zu G1).k.c2,(zu G1).k.c3,(zu G1).k.c4,(zu G1).k.c5,(zu G1).k.c6,(zu G1).k.c7,(zu G1).k.c8,(zu G1).k.c9,(zu G1).k.c10⟩ (fun hHeld=>?_)
   clear hK K
   try simp only[Act.put,zA,zB,zC]
   refine zR 3 rfl (fun K hK=>?_)
   go_simp
   have lbx:=(zu BA).lt.2
   go_wp2_with fail
   first|refine(SEngSv17.sSaveOf v6 true x z sg ct (zu G1).r (zu G1).rb (zu HS)).mono ?_|refine(SEngSv17.sSaveOf v6.drew true x z sg ct ((zu G1).r.below (Below.refl _ _).drew) ((zu G1).rb.below (Below.refl _ _).drew) (zu HS)).mono ?_
   rintro e v7 ⟨z1,zb,rfl,oz,b6⟩
   have b7:Below v6.heap.size v6 v7:=⟨b6.os,b6.tape,b6.output,b6.size,b6.block⟩
   have sv7:v6.heap.size≤v7.heap.size:=b6.size
   replace G1:=zh ((zu G1).step b7)
   replace K1:=zh ((zu K1).below b7 (zu K1).lt.2)
   replace BA:=zh ((zu BA).below b7 (zu BA).lt.2)
   have ZE:=zh zb
   have OZ:=zh (oz.rd (by rw[zb];exact zu SMA))
   clear oz zb
   clear b7 b6
   go_wp2_with fail
   refine hK.out _ _ ⟨(zu G1).k.c0,(zu G1).k.c1,(zu G1).k.c2,(zu G1).k.c3,(zu G1).k.c4,(zu G1).k.c5,(zu G1).k.c6,(zu G1).k.c7,(zu G1).k.c8,(zu G1).k.c9,(zu G1).k.c10⟩ (fun hHeld=>?_)
   clear hK K
   try simp only[Act.put,zA,zB,zC]
   refine zR 4 rfl (fun K hK=>?_)
   go_simp
   have lbx:=(zu BA).lt.2
   go_wp2_with fail
   first|refine((zu WS) v7 z1 (zu G1).r (zu OZ) (zu ZE)).mono ?_|refine((zu WS) v7 z1 (zu G1).r (zu OZ) (zu ZE)).mono ?_
   rintro e v8 ⟨yq,hy2,rfl,oy,b6⟩
   have b7:Below v7.heap.size v7 v8:=⟨b6.os,b6.tape,b6.output,b6.size,b6.block⟩
   have sv8:v7.heap.size≤v8.heap.size:=b6.size
   replace G1:=zh ((zu G1).step b7)
   replace K1:=zh ((zu K1).below b7 (zu K1).lt.2)
   replace OZ:=zh ((zu OZ).below b7)
   replace BA:=zh ((zu BA).below b7 (zu BA).lt.2)
   have Y2:=zh hy2
   have OYQ:=zh (show OwD v8 (w.heap.size+2) yq from row_base2 oy (by omega))
   have LY:=zh (fun(g:Nat) (e:(Value.slice yq.a yq.ps.length yq.c).ownBlock=some g)=>show v7.heap.size≤g∧g<v8.heap.size from own_lt oy e)
   clear oy hy2
   clear b7 b6
   go_wp2_with fail
   refine hK.out _ _ ⟨(zu G1).k.c0,(zu G1).k.c1,(zu G1).k.c2,(zu G1).k.c3,(zu G1).k.c4,(zu G1).k.c5,(zu G1).k.c6,(zu G1).k.c7,(zu G1).k.c8,(zu G1).k.c9,(zu G1).k.c10⟩ (fun hHeld=>?_)
   clear hK K
   refine zT 5 15 (.tuple #[.agg #[.int .i64 yq.room,.slice yq.a yq.ps.length yq.c],.int .i64 wc]) rfl hHeld ?_
   refine zT 6 21 (.agg #[.int .i64 yq.room,.slice yq.a yq.ps.length yq.c]) rfl hHeld ?_
   refine zT 7 22 (.int .i64 wc) rfl hHeld ?_
   try simp only[Act.put,zA,zB,zC]
   have bi:=boxed_in (y:=yq) (zu BA)
   have lk:=(zu K1).lt.2
   have FF:=zh (show Eg w _ w.heap.size true x z sg ct∧Bx11 _ w.heap.size (w.heap.size+1) (.bool false) (.int .i64 0) (.slice none 0 0) (.slice none 0 0) (.slice none 0 0) (.slice none 0 0) (.slice none 0 0) (.slice none 0 0) (.int .i64 0) (.int .i64 0) (.int .i64 0)∧Kd _ (u.heap.size) yq∧OwD _ (w.heap.size+2) yq∧(yq.room,yq.ps)=(wm,wp)∧w.heap.size+2≤u.heap.size from⟨(zu G1).kept bi.1 (by omega) (by omega) (zu HR) (zu HY),(zu K1).kept bi.1 (by simp;omega),bi.2,ownD_kept (zu OYQ) bi.1 (fun h=>by have:=(zu LY) _ h;omega),zu Y2,by omega⟩)
   have f0:=(zu BA).free 0
   have f1:=(zu BA).free 1
   have b0:=(zu BA).c0
   have b1:=(zu BA).c1
   refine zR 9 rfl (fun K hK=>?_)
   go_simp
   refine hK.out _ _ ⟨(zu FF).1.k.c0,(zu FF).1.k.c1,(zu FF).1.k.c2,(zu FF).1.k.c3,(zu FF).1.k.c4,(zu FF).1.k.c5,(zu FF).1.k.c6,(zu FF).1.k.c7,(zu FF).1.k.c8,(zu FF).1.k.c9,(zu FF).1.k.c10⟩ (fun hHeld=>?_)
   clear hK K
   refine zT 10 5 (.int .i64 wc) rfl hHeld ?_
   try simp only[Act.put,zA,zB,zC]
   refine wpAnyH_done (by kernel_rfl) ?_ _
   exact⟨(u.heap.size,z1,yq),rfl,FF⟩
end SEngSa17
namespace CrE17
open Fil14 DiskH14 DkH14 SDk14 SOk14 EFin17 SEngOk17 SEngSa17 SStep16 SWrite16 LawW16
open BMem (Small)
open Bks (Bk)
open SSave16 (saveD)
def FitE(r:PE):Prop:=Small r.2.2.1∧r.2.1.2.length≤1048576
theorem fit_no:FitE noE:=⟨⟨by simp[noE],by simp[noE],by simp[noE],by simp[noE],by simp[noE]⟩,by simp[noE]⟩
theorem fit_same{up:Bool}{room:Int}{ps:List TF}{b:Bk}{sg ct:Int}(hs:Small b)(h:ps.length≤1048576):FitE (up,(room,ps),b,sg,ct):=⟨hs,h⟩
theorem fit_save{v vb up:Bool}{room:Int}{ps:List TF}{b:Bk}{sg ct:Int}(hs:Small b)(h:ps.length≤1048576):FitE (saveE v vb up room ps b sg ct).1:=by
 unfold SEngSa17.saveE
 split
 ·split
  ·split
   ·exact⟨hs,len_write _ h⟩
   ·exact fit_same hs h
  ·exact fit_same hs h
 ·exact fit_no
end CrE17
end Go.Proofs.YtlbgfdpcgpijhaaGreat
