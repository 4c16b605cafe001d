/- At any arguments the program's EngineTornSave answers as its model, writes into no argument, and its answer is its own. No condition. -/
import Derived.Test.YtppkkmaoaiopaaaGreatRows
import Derived.Test.YtppkkmaoaiopaaaGreatQF26
import Derived.Test.YtppkkmaoaiopaaaGreatQF34
import Derived.ShutString
import Derived.ChangeOld
import Derived.Below
namespace Go.Proofs.YtppkkmaoaiopaaaGreat.fnExactEngineTornSave
open Go.ChangeShapes Go.WideShapes Go.ChangeAt Go.RowKit
open Go.ChangeMaps (open_string shut_string)
set_option linter.unusedVariables false
set_option linter.unusedSimpArgs false
theorem own:ownKnob Tryz.prog.godebug=none:=by kernel_rfl
theorem laidOut:laidOutB Tryz.prog=true:=by kernel_rfl
open Fil14 OpensF14 DiskH14 DkH14 SDk14 SOk14 EBx17 EFin17 SEngOk17 SEngCp17 EngB17 EngH17 CrE17
open BMem (Bx Rd Ow Small)
open Bks (Bk Ok)
open BHelp (Ix RdI)
open Lots (Says says_of)
set_option maxRecDepth 100000 in
set_option maxHeartbeats 8000000 in
theorem walk(up:Bool)(n0:Int)(a0:Option Addr)(len0 cap0:Nat)(z0:List Fil14.TF)(y0:BHelp.Ix)(sg ct:Int)(a1:Int)(a2:Int)(w:World)(l0:z0.length=len0)(g0:len0≤9223372036854775807)(w0:Fil14.ReadsF w a0 z0)(f0:OpensF14.FitF z0)(r0:BHelp.RdI w y0)(h0:BkEq.Fits y0.b)(w1:(Lit.int .i64 a1).wf=true)(w2:(Lit.int .i64 a2).wf=true):
  Calls Tryz.prog 3 #[.agg #[.bool up,.int .i64 n0,.slice a0 len0 cap0,.slice y0.aa y0.b.ac.length y0.ca,.slice y0.ai y0.b.ic.length y0.ci,.slice y0.ab y0.b.bs.length y0.cb,.slice y0.al y0.b.ls.length y0.cl,.slice y0.ats y0.b.ts.length y0.ct,.int .i64 y0.b.lot,.int .i64 sg,.int .i64 ct],.int .i64 a1,.int .i64 a2] w fun e w'=>e= .returned (.bool true)∧Below w.heap.size w w':=by
 obtain⟨vb,hvb⟩:=says_of (Ok y0.b)
 obtain⟨ok,hok⟩:=says_of (OkE up n0 z0 y0.b sg ct)
 have VB:=zh hvb
 have OK:=zh hok
 have HD:=zh w0
 have HI:=zh r0
 have A:=zh (Ar.start (up:=up) (n:=n0) (len:=len0) (cap:=cap0) (sg:=sg) (ct:=ct) w0 r0 33)
 clear w0 r0 hvb hok
 obtain⟨c0,c1,c2,c3,c4,c5,c6,c7,c8,c9,c10⟩:=(zu A).k.cs
 have cl:=(zu A).k.lt
 go_enter Tryz.func3,Tryz.ntmps3
 go_wp2_with fail
 clear c0 c1 c2 c3 c4 c5 c6 c7 c8 c9 c10 cl
 generalize w.alloc (.cells #[.bool up,.int .i64 n0,.slice a0 len0 cap0,.slice y0.aa y0.b.ac.length y0.ca,.slice y0.ai y0.b.ic.length y0.ci,.slice y0.ab y0.b.bs.length y0.cb,.slice y0.al y0.b.ls.length y0.cl,.slice y0.ats y0.b.ts.length y0.ct,.int .i64 y0.b.lot,.int .i64 sg,.int .i64 ct] 33)=W0 at *
 refine(szE W0 up n0 a0 len0 cap0 z0 y0 sg ct l0 g0 (zu A).rd f0 h0).mono ?_
 rintro e u0 ⟨r,rfl,hr,bb⟩
 replace A:=zh ((zu A).step bb)
 clear bb
 rcases hr with rfl|⟨rq,l20,sz,sm⟩
 ·go_wp2
  go_ret
  exact⟨rfl,(zu A).b⟩
 have rn:¬r<0:=by omega
 have SM:=zh sm
 have SZ:=zh sz
 clear rq sm sz
 have SP:=zh (fun u (x:Dx) (z:Bx) (h1:x.room=n0) (h2:x.ps=z0) (h3:z.b=y0.b) (hr:RdD u x) (hz:Rd u z)=>show Calls Tryz.prog 5 #[.agg #[.bool up,.int .i64 x.room,.slice x.a x.ps.length x.c,.slice (some ⟨z.ga,0,none⟩) z.b.ac.length z.ca,.slice (some ⟨z.gi,0,none⟩) z.b.ic.length z.ci,.slice (some ⟨z.gb,0,none⟩) z.b.bs.length z.cb,.slice (some ⟨z.gl,0,none⟩) z.b.ls.length z.cl,.slice (some ⟨z.gt,0,none⟩) z.b.ts.length z.ct,.int .i64 z.b.lot,.int .i64 sg,.int .i64 ct],.int .i64 a1,.int .i64 a2] u (ToldE (tornE ok vb up n0 z0 y0.b sg ct a1 a2) u) from by have:=SEngTs17.sEngineTornSave u up x z sg ct vb ok a1 a2 hr (by rw[h2];exact zu SZ) hz (by rw[h3];exact zu VB) (by rw[h1,h2,h3];exact zu OK);rw[h1,h2,h3] at this⊢;exact this)
 have IM:=zh (fun u (x:Dx) (z:Bx) (h1:x.room=n0) (h2:x.ps=z0) (h3:z.b=y0.b) (hr:RdD u x) (hz:Rd u z)=>show Calls Tryz.prog 7 #[.agg #[.bool up,.int .i64 x.room,.slice x.a x.ps.length x.c,.slice (some ⟨z.ga,0,none⟩) z.b.ac.length z.ca,.slice (some ⟨z.gi,0,none⟩) z.b.ic.length z.ci,.slice (some ⟨z.gb,0,none⟩) z.b.bs.length z.cb,.slice (some ⟨z.gl,0,none⟩) z.b.ls.length z.cl,.slice (some ⟨z.gt,0,none⟩) z.b.ts.length z.ct,.int .i64 z.b.lot,.int .i64 sg,.int .i64 ct],.int .i64 a1,.int .i64 a2] u (ToldE (tornE ok vb up n0 z0 y0.b sg ct a1 a2) u) from by have:=IEngTs17.iEngineTornSave u up x z sg ct vb ok a1 a2 hr (by rw[h2];exact zu SZ) hz (by rw[h3];exact zu VB) (by rw[h1,h2,h3];exact zu OK);rw[h1,h2,h3] at this⊢;exact this)
 have LEN:=zh (show FitE (tornE ok vb up n0 z0 y0.b sg ct a1 a2).1 from fit_torn (zu SM) (by omega))
 have T1:=zh (fun u hd hi=>toE u up n0 a0 len0 cap0 z0 y0 sg ct l0 l20 hd hi (zu SM))
 generalize (tornE ok vb up n0 z0 y0.b sg ct a1 a2)=rr at *
 obtain⟨⟨ru,⟨rm,rp⟩,rb,rs,rt⟩,rc⟩:=rr
 have qc:(rc !=rc)=false:=by simp
 have LP:rp.length≤1048576:=(zu LEN).2
 have LB:=zh (show Small rb from(zu LEN).1)
 clear OK VB LEN SZ f0 h0 g0
 obtain⟨c0,c1,c2,c3,c4,c5,c6,c7,c8,c9,c10⟩:=(zu A).k.cs
 have cl:=(zu A).k.lt
 go_wp2_with fail
 refine((zu T1) _ (zu A).rd (zu A).rb).mono ?_
 rintro e u1 ⟨x1,z1,xr,xp,hz,rfl,od,oz,bb⟩
 clear c0 c1 c2 c3 c4 c5 c6 c7 c8 c9 c10 cl
 replace A:=zh ((zu A).step bb)
 have RD:=zh (OwD.rd od (by rw[xp];omega))
 have RZ:=zh (oz.rd (by rw[hz];exact zu SM))
 have E1:=zh (And.intro xr (And.intro xp hz))
 clear od oz xr xp hz bb
 go_wp2_with fail
 refine((zu SP) _ x1 z1 (zu E1).1 (zu E1).2.1 (zu E1).2.2 (zu RD) (zu RZ)).mono ?_
 rintro e u2 ⟨xw,yw,q1,q2,rfl,od,ob,bb⟩
 obtain⟨qr,qp⟩:xw.room=rm∧xw.ps=rp:=by simpa using q1
 replace A:=zh ((zu A).step bb)
 have z1:=bb.size
 have bx:=one_more u2 (.cells #[.bool ru,.int .i64 xw.room,.slice xw.a xw.ps.length xw.c,.slice yw.aa yw.b.ac.length yw.ca,.slice yw.ai yw.b.ic.length yw.ci,.slice yw.ab yw.b.bs.length yw.cb,.slice yw.al yw.b.ls.length yw.cl,.slice yw.ats yw.b.ts.length yw.ct,.int .i64 yw.b.lot,.int .i64 rs,.int .i64 rt] 46)
 have WA:=zh (Ag.made od ob z1 (by rw[qp];exact LP) (by rw[q2];exact zu LB) ru rs rt 46)
 have EWA:=zh (And.intro qr (And.intro qp q2))
 replace A:=zh ((zu A).step bx)
 clear bx bb od ob q1 q2 qr qp RD RZ E1 z1
 obtain⟨c0,c1,c2,c3,c4,c5,c6,c7,c8,c9,c10⟩:=(zu A).k.cs
 have cl:=(zu A).k.lt
 go_wp2_with fail
 generalize hVWA:u2.alloc (.cells #[.bool ru,.int .i64 xw.room,.slice xw.a xw.ps.length xw.c,.slice yw.aa yw.b.ac.length yw.ca,.slice yw.ai yw.b.ic.length yw.ci,.slice yw.ab yw.b.bs.length yw.cb,.slice yw.al yw.b.ls.length yw.cl,.slice yw.ats yw.b.ts.length yw.ct,.int .i64 yw.b.lot,.int .i64 rs,.int .i64 rt] 46)=VWA at *
 have sWA:VWA.heap.size=u2.heap.size+1:=by rw[←hVWA];simp
 clear hVWA
 generalize hgw:u2.heap.size=gw at *
 generalize hlWA:u1.heap.size=loWA at *
 have lX:w.heap.size<VWA.heap.size:=(zu A).k.lt
 refine((zu T1) _ (zu A).rd (zu A).rb).mono ?_
 rintro e u3 ⟨x3,z3,xr,xp,hz,rfl,od,oz,bb⟩
 clear c0 c1 c2 c3 c4 c5 c6 c7 c8 c9 c10 cl
 replace A:=zh ((zu A).step bb)
 replace WA:=zh ((zu WA).step bb)
 have z1:=bb.size
 have bx:=one_more u3 (.cells #[.bool up,.int .i64 x3.room,.slice x3.a x3.ps.length x3.c,.slice (some ⟨z3.ga,0,none⟩) z3.b.ac.length z3.ca,.slice (some ⟨z3.gi,0,none⟩) z3.b.ic.length z3.ci,.slice (some ⟨z3.gb,0,none⟩) z3.b.bs.length z3.cb,.slice (some ⟨z3.gl,0,none⟩) z3.b.ls.length z3.cl,.slice (some ⟨z3.gt,0,none⟩) z3.b.ts.length z3.ct,.int .i64 z3.b.lot,.int .i64 sg,.int .i64 ct] 46)
 have X:=zh (show Ag (u3.alloc (.cells #[.bool up,.int .i64 x3.room,.slice x3.a x3.ps.length x3.c,.slice (some ⟨z3.ga,0,none⟩) z3.b.ac.length z3.ca,.slice (some ⟨z3.gi,0,none⟩) z3.b.ic.length z3.ci,.slice (some ⟨z3.gb,0,none⟩) z3.b.bs.length z3.cb,.slice (some ⟨z3.gl,0,none⟩) z3.b.ls.length z3.cl,.slice (some ⟨z3.gt,0,none⟩) z3.b.ts.length z3.ct,.int .i64 z3.b.lot,.int .i64 sg,.int .i64 ct] 46)) VWA.heap.size u3.heap.size up x3 (ixB z3) sg ct from Ag.made (y:=ixB z3) od (ow_ix oz) z1 (by rw[xp];omega) (by show Small z3.b;rw[hz];exact zu SM) up sg ct 46)
 have EX:=zh (And.intro xr (And.intro xp hz))
 replace A:=zh ((zu A).step bx)
 replace WA:=zh ((zu WA).step bx)
 clear bx bb od oz xr xp hz z1
 have d0:(_:Option Value)=some (.bool up):=(zu X).k.c0
 have d1:(_:Option Value)=some (.int .i64 x3.room):=(zu X).k.c1
 have d2:(_:Option Value)=some (.slice x3.a x3.ps.length x3.c):=(zu X).k.c2
 have d3:(_:Option Value)=some (.slice (some ⟨z3.ga,0,none⟩) z3.b.ac.length z3.ca):=(zu X).k.c3
 have d4:(_:Option Value)=some (.slice (some ⟨z3.gi,0,none⟩) z3.b.ic.length z3.ci):=(zu X).k.c4
 have d5:(_:Option Value)=some (.slice (some ⟨z3.gb,0,none⟩) z3.b.bs.length z3.cb):=(zu X).k.c5
 have d6:(_:Option Value)=some (.slice (some ⟨z3.gl,0,none⟩) z3.b.ls.length z3.cl):=(zu X).k.c6
 have d7:(_:Option Value)=some (.slice (some ⟨z3.gt,0,none⟩) z3.b.ts.length z3.ct):=(zu X).k.c7
 have d8:(_:Option Value)=some (.int .i64 z3.b.lot):=(zu X).k.c8
 have d9:(_:Option Value)=some (.int .i64 sg):=(zu X).k.c9
 have d10:(_:Option Value)=some (.int .i64 ct):=(zu X).k.c10
 have dl:=(zu X).k.lt
 go_wp2_with fail
 generalize hVX:u3.alloc (.cells #[.bool up,.int .i64 x3.room,.slice x3.a x3.ps.length x3.c,.slice (some ⟨z3.ga,0,none⟩) z3.b.ac.length z3.ca,.slice (some ⟨z3.gi,0,none⟩) z3.b.ic.length z3.ci,.slice (some ⟨z3.gb,0,none⟩) z3.b.bs.length z3.cb,.slice (some ⟨z3.gl,0,none⟩) z3.b.ls.length z3.cl,.slice (some ⟨z3.gt,0,none⟩) z3.b.ts.length z3.ct,.int .i64 z3.b.lot,.int .i64 sg,.int .i64 ct] 46)=VX at *
 have sX:VX.heap.size=u3.heap.size+1:=by rw[←hVX];simp
 clear hVX
 generalize hgx:u3.heap.size=gx at *
 generalize hlX:VWA.heap.size=loX at *
 have lG:w.heap.size<VX.heap.size:=(zu A).k.lt
 have lGX:loX≤gx:=(zu X).gl
 have RD:=zh (zu X).re.d
 have RZ:=zh (rd_ix (zu X).b (by rw[(zu EX).2.2];exact zu SM))
 have E1:=zh (zu EX)
 refine((zu IM) _ x3 z3 (zu E1).1 (zu E1).2.1 (zu E1).2.2 (zu RD) (zu RZ)).mono ?_
 rintro e u4 ⟨xg,yg,q1,q2,rfl,od,ob,bb⟩
 obtain⟨qr,qp⟩:xg.room=rm∧xg.ps=rp:=by simpa using q1
 clear d0 d1 d2 d3 d4 d5 d6 d7 d8 d9 d10 dl
 replace A:=zh ((zu A).step bb)
 replace WA:=zh ((zu WA).step bb)
 replace X:=zh ((zu X).step bb)
 have z1:=bb.size
 have bx:=one_more u4 (.cells #[.bool ru,.int .i64 xg.room,.slice xg.a xg.ps.length xg.c,.slice yg.aa yg.b.ac.length yg.ca,.slice yg.ai yg.b.ic.length yg.ci,.slice yg.ab yg.b.bs.length yg.cb,.slice yg.al yg.b.ls.length yg.cl,.slice yg.ats yg.b.ts.length yg.ct,.int .i64 yg.b.lot,.int .i64 rs,.int .i64 rt] 46)
 have G:=zh (Ag.made od ob z1 (by rw[qp];exact LP) (by rw[q2];exact zu LB) ru rs rt 46)
 have EG:=zh (And.intro qr (And.intro qp q2))
 replace A:=zh ((zu A).step bx)
 replace WA:=zh ((zu WA).step bx)
 replace X:=zh ((zu X).step bx)
 clear bx bb od ob q1 q2 qr qp RD RZ E1 z1
 obtain⟨d0,d1,d2,d3,d4,d5,d6,d7,d8,d9,d10⟩:=(zu G).k.cs
 have dl:=(zu G).k.lt
 obtain⟨v0,v1,v2,v3,v4,v5,v6,v7,v8,v9,v10⟩:=(zu WA).k.cs
 have vl:=(zu WA).k.lt
 go_wp2_with fail
 generalize hVG:u4.alloc (.cells #[.bool ru,.int .i64 xg.room,.slice xg.a xg.ps.length xg.c,.slice yg.aa yg.b.ac.length yg.ca,.slice yg.ai yg.b.ic.length yg.ci,.slice yg.ab yg.b.bs.length yg.cb,.slice yg.al yg.b.ls.length yg.cl,.slice yg.ats yg.b.ts.length yg.ct,.int .i64 yg.b.lot,.int .i64 rs,.int .i64 rt] 46)=VG at *
 have sG:VG.heap.size=u4.heap.size+1:=by rw[←hVG];simp
 clear hVG
 generalize hgg:u4.heap.size=gg at *
 generalize hlG:VX.heap.size=loG at *
 refine(eqE _ ru xg xw yg yw rs rt (by rw[(zu EWA).1,(zu EG).1]) (by rw[(zu EWA).2.1,(zu EG).2.1]) (by rw[(zu EWA).2.2,(zu EG).2.2]) (zu G).re (zu WA).re).mono ?_
 rintro e u5 ⟨rfl,bb⟩
 clear d0 d1 d2 d3 d4 d5 d6 d7 d8 d9 d10 dl v0 v1 v2 v3 v4 v5 v6 v7 v8 v9 v10 vl
 replace A:=zh ((zu A).step bb)
 replace WA:=zh ((zu WA).step bb)
 replace X:=zh ((zu X).step bb)
 replace G:=zh ((zu G).step bb)
 clear bb
 have K0:u5.cell? ⟨gx,0,none⟩=some (.bool up)∧u5.cell? ⟨gx,1,none⟩=some (.int .i64 x3.room)∧u5.cell? ⟨gx,2,none⟩=some (.slice x3.a x3.ps.length x3.c)∧u5.cell? ⟨gx,3,none⟩=some (.slice (some ⟨z3.ga,0,none⟩) z3.b.ac.length z3.ca)∧u5.cell? ⟨gx,4,none⟩=some (.slice (some ⟨z3.gi,0,none⟩) z3.b.ic.length z3.ci)∧u5.cell? ⟨gx,5,none⟩=some (.slice (some ⟨z3.gb,0,none⟩) z3.b.bs.length z3.cb)∧u5.cell? ⟨gx,6,none⟩=some (.slice (some ⟨z3.gl,0,none⟩) z3.b.ls.length z3.cl)∧u5.cell? ⟨gx,7,none⟩=some (.slice (some ⟨z3.gt,0,none⟩) z3.b.ts.length z3.ct)∧u5.cell? ⟨gx,8,none⟩=some (.int .i64 z3.b.lot)∧u5.cell? ⟨gx,9,none⟩=some (.int .i64 sg)∧u5.cell? ⟨gx,10,none⟩=some (.int .i64 ct)∧u5.cell? ⟨w.heap.size,0,none⟩=some (.bool up)∧u5.cell? ⟨w.heap.size,1,none⟩=some (.int .i64 n0)∧u5.cell? ⟨w.heap.size,2,none⟩=some (.slice a0 len0 cap0)∧u5.cell? ⟨w.heap.size,3,none⟩=some (.slice y0.aa y0.b.ac.length y0.ca)∧u5.cell? ⟨w.heap.size,4,none⟩=some (.slice y0.ai y0.b.ic.length y0.ci)∧u5.cell? ⟨w.heap.size,5,none⟩=some (.slice y0.ab y0.b.bs.length y0.cb)∧u5.cell? ⟨w.heap.size,6,none⟩=some (.slice y0.al y0.b.ls.length y0.cl)∧u5.cell? ⟨w.heap.size,7,none⟩=some (.slice y0.ats y0.b.ts.length y0.ct)∧u5.cell? ⟨w.heap.size,8,none⟩=some (.int .i64 y0.b.lot)∧u5.cell? ⟨w.heap.size,9,none⟩=some (.int .i64 sg)∧u5.cell? ⟨w.heap.size,10,none⟩=some (.int .i64 ct):=⟨(zu X).k.c0,(zu X).k.c1,(zu X).k.c2,(zu X).k.c3,(zu X).k.c4,(zu X).k.c5,(zu X).k.c6,(zu X).k.c7,(zu X).k.c8,(zu X).k.c9,(zu X).k.c10,(zu A).k.c0,(zu A).k.c1,(zu A).k.c2,(zu A).k.c3,(zu A).k.c4,(zu A).k.c5,(zu A).k.c6,(zu A).k.c7,(zu A).k.c8,(zu A).k.c9,(zu A).k.c10⟩
 go_wp2_with fail
 refine wp_region_held_drew (S:=(fun w'=>w'.cell? ⟨gx,0,none⟩=some (.bool up)∧w'.cell? ⟨gx,1,none⟩=some (.int .i64 x3.room)∧w'.cell? ⟨gx,2,none⟩=some (.slice x3.a x3.ps.length x3.c)∧w'.cell? ⟨gx,3,none⟩=some (.slice (some ⟨z3.ga,0,none⟩) z3.b.ac.length z3.ca)∧w'.cell? ⟨gx,4,none⟩=some (.slice (some ⟨z3.gi,0,none⟩) z3.b.ic.length z3.ci)∧w'.cell? ⟨gx,5,none⟩=some (.slice (some ⟨z3.gb,0,none⟩) z3.b.bs.length z3.cb)∧w'.cell? ⟨gx,6,none⟩=some (.slice (some ⟨z3.gl,0,none⟩) z3.b.ls.length z3.cl)∧w'.cell? ⟨gx,7,none⟩=some (.slice (some ⟨z3.gt,0,none⟩) z3.b.ts.length z3.ct)∧w'.cell? ⟨gx,8,none⟩=some (.int .i64 z3.b.lot)∧w'.cell? ⟨gx,9,none⟩=some (.int .i64 sg)∧w'.cell? ⟨gx,10,none⟩=some (.int .i64 ct)∧w'.cell? ⟨w.heap.size,0,none⟩=some (.bool up)∧w'.cell? ⟨w.heap.size,1,none⟩=some (.int .i64 n0)∧w'.cell? ⟨w.heap.size,2,none⟩=some (.slice a0 len0 cap0)∧w'.cell? ⟨w.heap.size,3,none⟩=some (.slice y0.aa y0.b.ac.length y0.ca)∧w'.cell? ⟨w.heap.size,4,none⟩=some (.slice y0.ai y0.b.ic.length y0.ci)∧w'.cell? ⟨w.heap.size,5,none⟩=some (.slice y0.ab y0.b.bs.length y0.cb)∧w'.cell? ⟨w.heap.size,6,none⟩=some (.slice y0.al y0.b.ls.length y0.cl)∧w'.cell? ⟨w.heap.size,7,none⟩=some (.slice y0.ats y0.b.ts.length y0.ct)∧w'.cell? ⟨w.heap.size,8,none⟩=some (.int .i64 y0.b.lot)∧w'.cell? ⟨w.heap.size,9,none⟩=some (.int .i64 sg)∧w'.cell? ⟨w.heap.size,10,none⟩=some (.int .i64 ct))) (by kernel_rfl) K0 (fun hHeld=>?_)
 refine zT 0 49 (.agg #[.bool up,.int .i64 x3.room,.slice x3.a x3.ps.length x3.c,.slice (some ⟨z3.ga,0,none⟩) z3.b.ac.length z3.ca,.slice (some ⟨z3.gi,0,none⟩) z3.b.ic.length z3.ci,.slice (some ⟨z3.gb,0,none⟩) z3.b.bs.length z3.cb,.slice (some ⟨z3.gl,0,none⟩) z3.b.ls.length z3.cl,.slice (some ⟨z3.gt,0,none⟩) z3.b.ts.length z3.ct,.int .i64 z3.b.lot,.int .i64 sg,.int .i64 ct]) rfl hHeld ?_
 refine zT 1 50 (.agg #[.bool up,.int .i64 n0,.slice a0 len0 cap0,.slice y0.aa y0.b.ac.length y0.ca,.slice y0.ai y0.b.ic.length y0.ci,.slice y0.ab y0.b.bs.length y0.cb,.slice y0.al y0.b.ls.length y0.cl,.slice y0.ats y0.b.ts.length y0.ct,.int .i64 y0.b.lot,.int .i64 sg,.int .i64 ct]) rfl hHeld ?_
 try simp only[Act.put,zA,zB,zC]
 refine zR 2 rfl (fun K hK=>?_)
 go_simp
 go_wp2_with fail
 refine((zu T1) u5.drew (show ReadsF u5.drew a0 z0 from(zu A).rd) ((zu A).rb.below (Below.refl _ _).drew)).mono ?_
 rintro e u7 ⟨x6,z6,xr,xp,hz,rfl,od,oz,b6⟩
 have b7:Below u5.heap.size u5 u7:=⟨b6.os,b6.tape,b6.output,b6.size,b6.block⟩
 replace A:=zh ((zu A).step b7)
 replace WA:=zh ((zu WA).step b7)
 replace X:=zh ((zu X).step b7)
 replace G:=zh ((zu G).step b7)
 have E6:=zh (And.intro xr (And.intro xp hz))
 have R6:=zh (show Re u7 x6 (ixB z6) from⟨OwD.rd od (by rw[xp];omega),rdV_of (oz.rd (by rw[hz];exact zu SM))⟩)
 have K1:u7.cell? ⟨gx,0,none⟩=some (.bool up)∧u7.cell? ⟨gx,1,none⟩=some (.int .i64 x3.room)∧u7.cell? ⟨gx,2,none⟩=some (.slice x3.a x3.ps.length x3.c)∧u7.cell? ⟨gx,3,none⟩=some (.slice (some ⟨z3.ga,0,none⟩) z3.b.ac.length z3.ca)∧u7.cell? ⟨gx,4,none⟩=some (.slice (some ⟨z3.gi,0,none⟩) z3.b.ic.length z3.ci)∧u7.cell? ⟨gx,5,none⟩=some (.slice (some ⟨z3.gb,0,none⟩) z3.b.bs.length z3.cb)∧u7.cell? ⟨gx,6,none⟩=some (.slice (some ⟨z3.gl,0,none⟩) z3.b.ls.length z3.cl)∧u7.cell? ⟨gx,7,none⟩=some (.slice (some ⟨z3.gt,0,none⟩) z3.b.ts.length z3.ct)∧u7.cell? ⟨gx,8,none⟩=some (.int .i64 z3.b.lot)∧u7.cell? ⟨gx,9,none⟩=some (.int .i64 sg)∧u7.cell? ⟨gx,10,none⟩=some (.int .i64 ct)∧u7.cell? ⟨w.heap.size,0,none⟩=some (.bool up)∧u7.cell? ⟨w.heap.size,1,none⟩=some (.int .i64 n0)∧u7.cell? ⟨w.heap.size,2,none⟩=some (.slice a0 len0 cap0)∧u7.cell? ⟨w.heap.size,3,none⟩=some (.slice y0.aa y0.b.ac.length y0.ca)∧u7.cell? ⟨w.heap.size,4,none⟩=some (.slice y0.ai y0.b.ic.length y0.ci)∧u7.cell? ⟨w.heap.size,5,none⟩=some (.slice y0.ab y0.b.bs.length y0.cb)∧u7.cell? ⟨w.heap.size,6,none⟩=some (.slice y0.al y0.b.ls.length y0.cl)∧u7.cell? ⟨w.heap.size,7,none⟩=some (.slice y0.ats y0.b.ts.length y0.ct)∧u7.cell? ⟨w.heap.size,8,none⟩=some (.int .i64 y0.b.lot)∧u7.cell? ⟨w.heap.size,9,none⟩=some (.int .i64 sg)∧u7.cell? ⟨w.heap.size,10,none⟩=some (.int .i64 ct):=⟨(zu X).k.c0,(zu X).k.c1,(zu X).k.c2,(zu X).k.c3,(zu X).k.c4,(zu X).k.c5,(zu X).k.c6,(zu X).k.c7,(zu X).k.c8,(zu X).k.c9,(zu X).k.c10,(zu A).k.c0,(zu A).k.c1,(zu A).k.c2,(zu A).k.c3,(zu A).k.c4,(zu A).k.c5,(zu A).k.c6,(zu A).k.c7,(zu A).k.c8,(zu A).k.c9,(zu A).k.c10⟩
 clear b6 b7 od oz xr xp hz
 go_wp2_with fail
 refine hK.out _ _ K1 (fun hHeld=>?_)
 clear hK K
 try simp only[Act.put,zA,zB,zC]
 refine zR 3 rfl (fun K hK=>?_)
 go_simp
 go_wp2_with fail
 refine(eqE u7 up x3 x6 (ixB z3) (ixB z6) sg ct (by rw[(zu E6).1,(zu EX).1]) (by rw[(zu E6).2.1,(zu EX).2.1]) (show z6.b=z3.b by rw[(zu E6).2.2,(zu EX).2.2]) (zu X).re (zu R6)).mono ?_
 rintro e u9 ⟨rfl,bb⟩
 replace A:=zh ((zu A).step bb)
 replace WA:=zh ((zu WA).step bb)
 replace X:=zh ((zu X).step bb)
 replace G:=zh ((zu G).step bb)
 have K2:u9.cell? ⟨gx,0,none⟩=some (.bool up)∧u9.cell? ⟨gx,1,none⟩=some (.int .i64 x3.room)∧u9.cell? ⟨gx,2,none⟩=some (.slice x3.a x3.ps.length x3.c)∧u9.cell? ⟨gx,3,none⟩=some (.slice (some ⟨z3.ga,0,none⟩) z3.b.ac.length z3.ca)∧u9.cell? ⟨gx,4,none⟩=some (.slice (some ⟨z3.gi,0,none⟩) z3.b.ic.length z3.ci)∧u9.cell? ⟨gx,5,none⟩=some (.slice (some ⟨z3.gb,0,none⟩) z3.b.bs.length z3.cb)∧u9.cell? ⟨gx,6,none⟩=some (.slice (some ⟨z3.gl,0,none⟩) z3.b.ls.length z3.cl)∧u9.cell? ⟨gx,7,none⟩=some (.slice (some ⟨z3.gt,0,none⟩) z3.b.ts.length z3.ct)∧u9.cell? ⟨gx,8,none⟩=some (.int .i64 z3.b.lot)∧u9.cell? ⟨gx,9,none⟩=some (.int .i64 sg)∧u9.cell? ⟨gx,10,none⟩=some (.int .i64 ct)∧u9.cell? ⟨w.heap.size,0,none⟩=some (.bool up)∧u9.cell? ⟨w.heap.size,1,none⟩=some (.int .i64 n0)∧u9.cell? ⟨w.heap.size,2,none⟩=some (.slice a0 len0 cap0)∧u9.cell? ⟨w.heap.size,3,none⟩=some (.slice y0.aa y0.b.ac.length y0.ca)∧u9.cell? ⟨w.heap.size,4,none⟩=some (.slice y0.ai y0.b.ic.length y0.ci)∧u9.cell? ⟨w.heap.size,5,none⟩=some (.slice y0.ab y0.b.bs.length y0.cb)∧u9.cell? ⟨w.heap.size,6,none⟩=some (.slice y0.al y0.b.ls.length y0.cl)∧u9.cell? ⟨w.heap.size,7,none⟩=some (.slice y0.ats y0.b.ts.length y0.ct)∧u9.cell? ⟨w.heap.size,8,none⟩=some (.int .i64 y0.b.lot)∧u9.cell? ⟨w.heap.size,9,none⟩=some (.int .i64 sg)∧u9.cell? ⟨w.heap.size,10,none⟩=some (.int .i64 ct):=⟨(zu X).k.c0,(zu X).k.c1,(zu X).k.c2,(zu X).k.c3,(zu X).k.c4,(zu X).k.c5,(zu X).k.c6,(zu X).k.c7,(zu X).k.c8,(zu X).k.c9,(zu X).k.c10,(zu A).k.c0,(zu A).k.c1,(zu A).k.c2,(zu A).k.c3,(zu A).k.c4,(zu A).k.c5,(zu A).k.c6,(zu A).k.c7,(zu A).k.c8,(zu A).k.c9,(zu A).k.c10⟩
 clear bb R6 E6
 go_wp2_with fail
 refine hK.out _ _ K2 (fun hHeld=>?_)
 clear hK K
 refine zT 4 53 (.bool false) rfl hHeld ?_
 try simp only[Act.put,zA,zB,zC]
 refine wpAnyH_done (by kernel_rfl) ?_ _
 clear K0 K1 K2
 have d0:(_:Option Value)=some (.bool up):=(zu X).k.c0
 have d1:(_:Option Value)=some (.int .i64 x3.room):=(zu X).k.c1
 have d2:(_:Option Value)=some (.slice x3.a x3.ps.length x3.c):=(zu X).k.c2
 have d3:(_:Option Value)=some (.slice (some ⟨z3.ga,0,none⟩) z3.b.ac.length z3.ca):=(zu X).k.c3
 have d4:(_:Option Value)=some (.slice (some ⟨z3.gi,0,none⟩) z3.b.ic.length z3.ci):=(zu X).k.c4
 have d5:(_:Option Value)=some (.slice (some ⟨z3.gb,0,none⟩) z3.b.bs.length z3.cb):=(zu X).k.c5
 have d6:(_:Option Value)=some (.slice (some ⟨z3.gl,0,none⟩) z3.b.ls.length z3.cl):=(zu X).k.c6
 have d7:(_:Option Value)=some (.slice (some ⟨z3.gt,0,none⟩) z3.b.ts.length z3.ct):=(zu X).k.c7
 have d8:(_:Option Value)=some (.int .i64 z3.b.lot):=(zu X).k.c8
 have d9:(_:Option Value)=some (.int .i64 sg):=(zu X).k.c9
 have d10:(_:Option Value)=some (.int .i64 ct):=(zu X).k.c10
 have dl:=(zu X).k.lt
 have hb:=mE_bd (zu X).nd (zu X).nb
 go_wp2_with fail
 refine(markE u9 loX gx up x3 (ixB z3) sg ct (zu X)).mono ?_
 rintro e u10 ⟨rfl,_,rg⟩
 clear d0 d1 d2 d3 d4 d5 d6 d7 d8 d9 d10 dl
 have bl:=rg.below (by have:=(zu X).gl;have:=(zu X).k.lt;omega)
 have lw:=(zu A).k.lt
 replace A:=zh ((zu A).low (zu HD) (zu HI) bl (by omega))
 replace WA:=zh ((zu WA).out rg (.inr (by omega)))
 replace G:=zh ((zu G).out rg (.inl (by omega)))
 clear X rg bl lw EX
 have k0:¬mE x3 (ixB z3)<0:=by omega
 generalize mE x3 (ixB z3)=mx at *
 clear hb
 obtain⟨d0,d1,d2,d3,d4,d5,d6,d7,d8,d9,d10⟩:=(zu G).k.cs
 have dl:=(zu G).k.lt
 obtain⟨v0,v1,v2,v3,v4,v5,v6,v7,v8,v9,v10⟩:=(zu WA).k.cs
 have vl:=(zu WA).k.lt
 go_wp2_with fail
 refine(eqE _ ru xg xw yg yw rs rt (by rw[(zu EWA).1,(zu EG).1]) (by rw[(zu EWA).2.1,(zu EG).2.1]) (by rw[(zu EWA).2.2,(zu EG).2.2]) (zu G).re (zu WA).re).mono ?_
 rintro e u11 ⟨rfl,bb⟩
 clear d0 d1 d2 d3 d4 d5 d6 d7 d8 d9 d10 dl v0 v1 v2 v3 v4 v5 v6 v7 v8 v9 v10 vl
 replace A:=zh ((zu A).step bb)
 replace WA:=zh ((zu WA).step bb)
 replace G:=zh ((zu G).step bb)
 clear bb
 obtain⟨d0,d1,d2,d3,d4,d5,d6,d7,d8,d9,d10⟩:=(zu G).k.cs
 have dl:=(zu G).k.lt
 have hb:=mE_bd (zu G).nd (zu G).nb
 go_wp2_with fail
 refine(markE u11 loG gg ru xg yg rs rt (zu G)).mono ?_
 rintro e u12 ⟨rfl,mm,rg⟩
 clear d0 d1 d2 d3 d4 d5 d6 d7 d8 d9 d10 dl
 have bl:=rg.below (by have:=(zu G).gl;have:=(zu G).k.lt;omega)
 replace A:=zh ((zu A).low (zu HD) (zu HI) bl (by omega))
 replace WA:=zh ((zu WA).out rg (.inr (by omega)))
 have M:=zh mm
 clear G rg bl mm
 have k1:¬mE xg yg<0:=by omega
 have k2:(mE xg yg !=mE xg yg)=false:=by simp
 clear hb
 obtain⟨d0,d1,d2,d3,d4,d5,d6,d7,d8,d9,d10⟩:=(zu M).k.cs
 have dl:=(zu M).k.lt
 go_wp2_with fail
 refine(heldE _ loG gg ru xg yg rs rt (zu M)).mono ?_
 rintro e u13 ⟨rfl,bb⟩
 clear d0 d1 d2 d3 d4 d5 d6 d7 d8 d9 d10 dl
 replace A:=zh ((zu A).step bb)
 replace WA:=zh ((zu WA).step bb)
 replace M:=zh ((zu M).step bb)
 clear bb
 obtain⟨c0,c1,c2,c3,c4,c5,c6,c7,c8,c9,c10⟩:=(zu A).k.cs
 have cl:=(zu A).k.lt
 go_wp2_with fail
 refine((zu T1) _ (zu A).rd (zu A).rb).mono ?_
 rintro e u14 ⟨x14,z14,xr,xp,hz,rfl,od,oz,bb⟩
 clear c0 c1 c2 c3 c4 c5 c6 c7 c8 c9 c10 cl
 replace A:=zh ((zu A).step bb)
 replace WA:=zh ((zu WA).step bb)
 replace M:=zh ((zu M).step bb)
 have RD:=zh (OwD.rd od (by rw[xp];omega))
 have RZ:=zh (oz.rd (by rw[hz];exact zu SM))
 have E1:=zh (And.intro xr (And.intro xp hz))
 clear od oz xr xp hz bb
 go_wp2_with fail
 refine((zu IM) _ x14 z14 (zu E1).1 (zu E1).2.1 (zu E1).2.2 (zu RD) (zu RZ)).mono ?_
 rintro e u15 ⟨xh,yh,q1,q2,rfl,od,ob,bb⟩
 obtain⟨qr,qp⟩:xh.room=rm∧xh.ps=rp:=by simpa using q1
 replace A:=zh ((zu A).step bb)
 replace WA:=zh ((zu WA).step bb)
 replace M:=zh ((zu M).step bb)
 have z1:=bb.size
 have bx:=one_more u15 (.cells #[.bool ru,.int .i64 xh.room,.slice xh.a xh.ps.length xh.c,.slice yh.aa yh.b.ac.length yh.ca,.slice yh.ai yh.b.ic.length yh.ci,.slice yh.ab yh.b.bs.length yh.cb,.slice yh.al yh.b.ls.length yh.cl,.slice yh.ats yh.b.ts.length yh.ct,.int .i64 yh.b.lot,.int .i64 rs,.int .i64 rt] 46)
 have H:=zh (Ag.made od ob z1 (by rw[qp];exact LP) (by rw[q2];exact zu LB) ru rs rt 46)
 have EH:=zh (And.intro qr (And.intro qp q2))
 replace A:=zh ((zu A).step bx)
 replace WA:=zh ((zu WA).step bx)
 replace M:=zh ((zu M).step bx)
 clear bx bb od ob q1 q2 qr qp RD RZ E1 z1
 obtain⟨d0,d1,d2,d3,d4,d5,d6,d7,d8,d9,d10⟩:=(zu H).k.cs
 have dl:=(zu H).k.lt
 obtain⟨v0,v1,v2,v3,v4,v5,v6,v7,v8,v9,v10⟩:=(zu WA).k.cs
 have vl:=(zu WA).k.lt
 go_wp2_with fail
 generalize hVH:u15.alloc (.cells #[.bool ru,.int .i64 xh.room,.slice xh.a xh.ps.length xh.c,.slice yh.aa yh.b.ac.length yh.ca,.slice yh.ai yh.b.ic.length yh.ci,.slice yh.ab yh.b.bs.length yh.cb,.slice yh.al yh.b.ls.length yh.cl,.slice yh.ats yh.b.ts.length yh.ct,.int .i64 yh.b.lot,.int .i64 rs,.int .i64 rt] 46)=VH at *
 have sH:VH.heap.size=u15.heap.size+1:=by rw[←hVH];simp
 clear hVH
 generalize hgh:u15.heap.size=gh at *
 generalize hlH:u14.heap.size=loH at *
 refine(eqE _ ru xh xw yh yw rs rt (by rw[(zu EWA).1,(zu EH).1]) (by rw[(zu EWA).2.1,(zu EH).2.1]) (by rw[(zu EWA).2.2,(zu EH).2.2]) (zu H).re (zu WA).re).mono ?_
 rintro e u16 ⟨rfl,bb⟩
 clear d0 d1 d2 d3 d4 d5 d6 d7 d8 d9 d10 dl v0 v1 v2 v3 v4 v5 v6 v7 v8 v9 v10 vl
 replace A:=zh ((zu A).step bb)
 replace WA:=zh ((zu WA).step bb)
 replace M:=zh ((zu M).step bb)
 replace H:=zh ((zu H).step bb)
 clear bb
 obtain⟨d0,d1,d2,d3,d4,d5,d6,d7,d8,d9,d10⟩:=(zu M).k.cs
 have dl:=(zu M).k.lt
 go_wp2_with fail
 refine(heldE _ loG gg ru xg yg rs rt (zu M)).mono ?_
 rintro e u17 ⟨rfl,bb⟩
 clear d0 d1 d2 d3 d4 d5 d6 d7 d8 d9 d10 dl
 replace A:=zh ((zu A).step bb)
 replace WA:=zh ((zu WA).step bb)
 replace M:=zh ((zu M).step bb)
 replace H:=zh ((zu H).step bb)
 clear bb
 go_wp2
 go_ret
 exact⟨rfl,(zu A).b⟩
set_option maxRecDepth 100000 in
theorem lifted(os:Os)(started:os.Started)(H:Type)(enc:TypeId×Value→H):
  ReturnsInHanded {} Tryz.checked os 3 .any (Rows.fnExactEngineTornSaveSpec.pre6 enc Tryz.prog Tryz.f3 Rows.fnExactEngineTornSaveRow.domain false) (Rows.fnExactEngineTornSaveSpec.post enc Tryz.prog Tryz.f3 false true false false):=by
 refine returnsInHanded_of_change (C:=Tryz.checked) own started (by kernel_rfl) Tryz.func3
  (ChangeSpec.witness6 (enc:=enc) (C:=Tryz.checked) false ⟨#[],#[.agg #[.bool false,.int .i64 0,.slice none 0 0,.slice none 0 0,.slice none 0 0,.slice none 0 0,.slice none 0 0,.slice none 0 0,.int .i64 0,.int .i64 0,.int .i64 0],.int .i64 0,.int .i64 0],[]⟩ 8 (by kernel_rfl) (by kernel_rfl) (by kernel_rfl) (by kernel_rfl)) ?_
 intro W base args ds gs before hval0 hW hcnd _
 have hval:∀(j:Nat) t v,Tryz.f3.params[j]?=some t→args[j]?=some v→Value.okWide Tryz.prog W .any base t v:=hval0
 have hW':=hW
 obtain⟨p,q,hA0,hV,rfl,hfz,hnd⟩:=hW
 have hA:DataW.TrodAll enc Tryz.prog W 0 (fun _=>true) true Tryz.f3.params.toList args.toList ds p:=hA0
 rw[Tryz.params3] at hA hval
 obtain⟨v0,vs0,d0,ds0,p0,q0,hargs,rfl,rfl,h0,r0⟩:=trodAll_cons hA
 obtain⟨v1,vs1,d1,ds1,p1,q1,rfl,rfl,rfl,h1,r1⟩:=trodAll_cons r0
 obtain⟨v2,vs2,d2,ds2,p2,q2,rfl,rfl,rfl,h2,r2⟩:=trodAll_cons r1
 obtain⟨rfl,rfl,rfl⟩:=trodAll_nil r2
 obtain rfl:args= #[v0,v1,v2]:=by cases args;simp_all
 obtain⟨rfl,rfl⟩:=trodVars_none hV
 have k0:=h0
 have lt0:∀x∈p0,x.block<W.heap.size:=by obtain⟨m,hm⟩:=k0;exact DataW.trod_lt m _ _ _ hm
 obtain⟨up,n0,a0,len0,cap0,z0,y0,sg,ct,rfl,l0,g0,w0,f0,rk0,hk0⟩:=LawE17.open_engine (hval 0 33 v0 rfl rfl) h0
 obtain⟨a1,rfl,rfl,rfl,w1⟩:=open_int Tryz.underlying3 (hval 1 3 v1 rfl rfl) h1
 obtain⟨a2,rfl,rfl,rfl,w2⟩:=open_int Tryz.underlying3 (hval 2 3 v2 rfl rfl) h2
 clear hA0 hval0
 refine(walk up n0 a0 len0 cap0 z0 y0 sg ct a1 a2 W l0 g0 w0 f0 rk0 hk0 w1 w2).mono fun e W' ⟨he,bel⟩=>?_
 subst he
 exact⟨_,rfl,_,_,_,[],_,[],hW',trodAll_mk1 (shut_bool Tryz.underlying4 _),(trodAll_cons_mk (Below.trod laidOut (by kernel_rfl) (of_decide_eq_true (by kernel_rfl)) k0 bel lt0) (trodAll_cons_mk (shut_int Tryz.underlying3 w1) (trodAll_cons_mk (shut_int Tryz.underlying3 w2) trodAll_mk0))),rfl,bel.frame _,fun h=>by cases h⟩
theorem over:Rows.fnExactEngineTornSaveRow.holds Tryz.pinned (OpenSpec.ofChange Rows.fnExactEngineTornSaveSpec):=
 OpenClaim.holds_of_wide 3 Tryz.f3 rfl rfl rfl rfl rfl rfl rfl ⟨rfl,rfl,rfl,rfl,rfl⟩ rfl rfl rfl rfl rfl (by kernel_rfl) Tryz.func3 (by kernel_rfl)
  (of_decide_eq_true (by kernel_rfl)) (by unfold Func.isWrapper;first|(rw[if_pos (by decide+kernel)];kernel_rfl)|(rw[if_neg (by decide+kernel)];exact⟨rfl,rfl⟩))
  (fun os started H enc _=>lifted os started H enc)
theorem proved:Rows.FnExactEngineTornSaveSaid:=over
#print axioms proved
end Go.Proofs.YtppkkmaoaiopaaaGreat.fnExactEngineTornSave
