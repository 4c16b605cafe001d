/- At any arguments the program's EngineNew answers as its model, and its answer is its own. No condition. -/
import Derived.Test.YtlbgfdpcgpijhaaGreatRows
import Derived.Test.YtlbgfdpcgpijhaaGreatQA20
import Derived.Test.YtlbgfdpcgpijhaaGreatQA50
import Derived.ShutString
import Derived.ChangeOld
import Derived.Below
namespace Go.Proofs.YtlbgfdpcgpijhaaGreat.fnExactEngineNew
open Go.ChangeShapes Go.WideShapes Go.ChangeAt Go.RowKit
open Go.ChangeMaps (open_string shut_string)
set_option linter.unusedVariables false
set_option linter.unusedSimpArgs false
theorem own:ownKnob Tryz.prog.godebug=none:=by kernel_rfl
theorem laidOut:laidOutB Tryz.prog=true:=by kernel_rfl
open Fil14 OpensF14 DiskH14 DkH14 SDk14 SOk14 EBx17 EFin17 SEngOk17 EngB17 EngH17 CrE17 SEngNw17
open BMem (Bx Rd Ow Small)
open Bks (Bk Ok)
open BHelp (Ix RdI)
open Lots (Says says_of)
set_option maxRecDepth 100000 in
set_option maxHeartbeats 8000000 in
theorem walk(a0:Int)(w:World)(w0:(Lit.int .i64 a0).wf=true):
  Calls Tryz.prog 4 #[.int .i64 a0] w fun e w'=>e= .returned (.bool true)∧Below w.heap.size w w':=by
 obtain⟨vb,hvb⟩:=says_of (Ok ⟨[],[],[],[],[],0⟩)
 obtain⟨v,hv⟩:=says_of (OkE true a0 [] ⟨[],[],[],[],[],0⟩ 0 0)
 have SP:=zh (fun u=>SEngNw17.sEngineNew u a0 vb v hvb hv)
 have IM:=zh (fun u=>IEngNw17.iEngineNew u a0 vb v hvb hv)
 have LEN:=zh (show FitE (newE v a0) from by unfold newE;split;exact fit_same ⟨by simp,by simp,by simp,by simp,by simp⟩ (by simp);exact fit_no)
 have BB:=zh (Below.refl w.heap.size w)
 clear hvb hv
 generalize newE v a0=rr at *
 obtain⟨ru,⟨rm,rp⟩,rb,rs,rt⟩:=rr
 have LP:rp.length≤1048576:=(zu LEN).2
 have LB:=zh (show Small rb from(zu LEN).1)
 clear LEN w0
 go_enter Tryz.func4,Tryz.ntmps4
 go_wp2_with fail
 refine((zu SP) w).mono ?_
 rintro e u2 ⟨xw,yw,q1,q2,rfl,od,ob,bb⟩
 obtain⟨qr,qp⟩:xw.room=rm∧xw.ps=rp:=by simpa using q1
 replace BB:=zh ((zu BB).trans (bb.mono (zu BB).size))
 have z1:=bb.size
 have bx:=one_more u2 (.cells #[.bool ru,.int .i64 xw.room,.slice xw.a xw.ps.length xw.c,.slice yw.aa yw.b.ac.length yw.ca,.slice yw.ai yw.b.ic.length yw.ci,.slice yw.ab yw.b.bs.length yw.cb,.slice yw.al yw.b.ls.length yw.cl,.slice yw.ats yw.b.ts.length yw.ct,.int .i64 yw.b.lot,.int .i64 rs,.int .i64 rt] 47)
 have WA:=zh (Ag.made od ob z1 (by rw[qp];exact LP) (by rw[q2];exact zu LB) ru rs rt 47)
 have EWA:=zh (And.intro qr (And.intro qp q2))
 replace BB:=zh ((zu BB).trans (bx.mono (zu BB).size))
 clear bx bb od ob q1 q2 qr qp z1
 obtain⟨d0,d1,d2,d3,d4,d5,d6,d7,d8,d9,d10⟩:=(zu WA).k.cs
 have dl:=(zu WA).k.lt
 go_wp2_with fail
 generalize hVWA:u2.alloc (.cells #[.bool ru,.int .i64 xw.room,.slice xw.a xw.ps.length xw.c,.slice yw.aa yw.b.ac.length yw.ca,.slice yw.ai yw.b.ic.length yw.ci,.slice yw.ab yw.b.bs.length yw.cb,.slice yw.al yw.b.ls.length yw.cl,.slice yw.ats yw.b.ts.length yw.ct,.int .i64 yw.b.lot,.int .i64 rs,.int .i64 rt] 47)=VWA at *
 have sWA:VWA.heap.size=u2.heap.size+1:=by rw[←hVWA];simp
 clear hVWA
 generalize hgw:u2.heap.size=gw at *
 clear d0 d1 d2 d3 d4 d5 d6 d7 d8 d9 d10 dl
 have lW:w.heap.size≤VWA.heap.size:=(zu BB).size
 refine((zu IM) VWA).mono ?_
 rintro e u4 ⟨xg,yg,q1,q2,rfl,od,ob,bb⟩
 obtain⟨qr,qp⟩:xg.room=rm∧xg.ps=rp:=by simpa using q1
 replace BB:=zh ((zu BB).trans (bb.mono (zu BB).size))
 replace WA:=zh ((zu WA).step bb)
 have z1:=bb.size
 have bx:=one_more u4 (.cells #[.bool ru,.int .i64 xg.room,.slice xg.a xg.ps.length xg.c,.slice yg.aa yg.b.ac.length yg.ca,.slice yg.ai yg.b.ic.length yg.ci,.slice yg.ab yg.b.bs.length yg.cb,.slice yg.al yg.b.ls.length yg.cl,.slice yg.ats yg.b.ts.length yg.ct,.int .i64 yg.b.lot,.int .i64 rs,.int .i64 rt] 47)
 have G:=zh (Ag.made od ob z1 (by rw[qp];exact LP) (by rw[q2];exact zu LB) ru rs rt 47)
 have EG:=zh (And.intro qr (And.intro qp q2))
 replace BB:=zh ((zu BB).trans (bx.mono (zu BB).size))
 replace WA:=zh ((zu WA).step bx)
 clear bx bb od ob q1 q2 qr qp z1
 obtain⟨d0,d1,d2,d3,d4,d5,d6,d7,d8,d9,d10⟩:=(zu G).k.cs
 have dl:=(zu G).k.lt
 obtain⟨v0,v1,v2,v3,v4,v5,v6,v7,v8,v9,v10⟩:=(zu WA).k.cs
 have vl:=(zu WA).k.lt
 go_wp2_with fail
 generalize hVG:u4.alloc (.cells #[.bool ru,.int .i64 xg.room,.slice xg.a xg.ps.length xg.c,.slice yg.aa yg.b.ac.length yg.ca,.slice yg.ai yg.b.ic.length yg.ci,.slice yg.ab yg.b.bs.length yg.cb,.slice yg.al yg.b.ls.length yg.cl,.slice yg.ats yg.b.ts.length yg.ct,.int .i64 yg.b.lot,.int .i64 rs,.int .i64 rt] 47)=VG at *
 have sG:VG.heap.size=u4.heap.size+1:=by rw[←hVG];simp
 clear hVG
 generalize hgg:u4.heap.size=gg at *
 generalize hlG:VWA.heap.size=loG at *
 refine(eqE _ ru xg xw yg yw rs rt (by rw[(zu EWA).1,(zu EG).1]) (by rw[(zu EWA).2.1,(zu EG).2.1]) (by rw[(zu EWA).2.2,(zu EG).2.2]) (zu G).re (zu WA).re).mono ?_
 rintro e u5 ⟨rfl,bb⟩
 clear d0 d1 d2 d3 d4 d5 d6 d7 d8 d9 d10 dl v0 v1 v2 v3 v4 v5 v6 v7 v8 v9 v10 vl
 replace BB:=zh ((zu BB).trans (bb.mono (zu BB).size))
 replace WA:=zh ((zu WA).step bb)
 replace G:=zh ((zu G).step bb)
 clear bb
 obtain⟨d0,d1,d2,d3,d4,d5,d6,d7,d8,d9,d10⟩:=(zu G).k.cs
 have dl:=(zu G).k.lt
 have hb:=mE_bd (zu G).nd (zu G).nb
 go_wp2_with fail
 refine(markE u5 loG gg ru xg yg rs rt (zu G)).mono ?_
 rintro e u12 ⟨rfl,mm,rg⟩
 clear d0 d1 d2 d3 d4 d5 d6 d7 d8 d9 d10 dl
 have bl:=rg.below (by have:=(zu G).gl;have:=(zu G).k.lt;omega)
 replace BB:=zh ((zu BB).trans (bl.mono (by omega)))
 have lWA:w.heap.size≤gw:=(zu WA).gl
 replace WA:=zh ((zu WA).out rg (.inr (by omega)))
 have M:=zh mm
 clear G rg bl mm
 have k1:¬mE xg yg<0:=by omega
 have k2:(mE xg yg !=mE xg yg)=false:=by simp
 clear hb
 obtain⟨d0,d1,d2,d3,d4,d5,d6,d7,d8,d9,d10⟩:=(zu M).k.cs
 have dl:=(zu M).k.lt
 go_wp2_with fail
 refine(heldE _ loG gg ru xg yg rs rt (zu M)).mono ?_
 rintro e u13 ⟨rfl,bb⟩
 clear d0 d1 d2 d3 d4 d5 d6 d7 d8 d9 d10 dl
 replace BB:=zh ((zu BB).trans (bb.mono (zu BB).size))
 replace WA:=zh ((zu WA).step bb)
 replace M:=zh ((zu M).step bb)
 clear bb
 go_wp2_with fail
 refine((zu IM) u13).mono ?_
 rintro e u15 ⟨xh,yh,q1,q2,rfl,od,ob,bb⟩
 obtain⟨qr,qp⟩:xh.room=rm∧xh.ps=rp:=by simpa using q1
 replace BB:=zh ((zu BB).trans (bb.mono (zu BB).size))
 replace WA:=zh ((zu WA).step bb)
 replace M:=zh ((zu M).step bb)
 have z1:=bb.size
 have bx:=one_more u15 (.cells #[.bool ru,.int .i64 xh.room,.slice xh.a xh.ps.length xh.c,.slice yh.aa yh.b.ac.length yh.ca,.slice yh.ai yh.b.ic.length yh.ci,.slice yh.ab yh.b.bs.length yh.cb,.slice yh.al yh.b.ls.length yh.cl,.slice yh.ats yh.b.ts.length yh.ct,.int .i64 yh.b.lot,.int .i64 rs,.int .i64 rt] 47)
 have H:=zh (Ag.made od ob z1 (by rw[qp];exact LP) (by rw[q2];exact zu LB) ru rs rt 47)
 have EH:=zh (And.intro qr (And.intro qp q2))
 replace BB:=zh ((zu BB).trans (bx.mono (zu BB).size))
 replace WA:=zh ((zu WA).step bx)
 replace M:=zh ((zu M).step bx)
 clear bx bb od ob q1 q2 qr qp z1
 obtain⟨d0,d1,d2,d3,d4,d5,d6,d7,d8,d9,d10⟩:=(zu H).k.cs
 have dl:=(zu H).k.lt
 obtain⟨v0,v1,v2,v3,v4,v5,v6,v7,v8,v9,v10⟩:=(zu WA).k.cs
 have vl:=(zu WA).k.lt
 go_wp2_with fail
 generalize hVH:u15.alloc (.cells #[.bool ru,.int .i64 xh.room,.slice xh.a xh.ps.length xh.c,.slice yh.aa yh.b.ac.length yh.ca,.slice yh.ai yh.b.ic.length yh.ci,.slice yh.ab yh.b.bs.length yh.cb,.slice yh.al yh.b.ls.length yh.cl,.slice yh.ats yh.b.ts.length yh.ct,.int .i64 yh.b.lot,.int .i64 rs,.int .i64 rt] 47)=VH at *
 have sH:VH.heap.size=u15.heap.size+1:=by rw[←hVH];simp
 clear hVH
 generalize hgh:u15.heap.size=gh at *
 generalize hlH:u13.heap.size=loH at *
 refine(eqE _ ru xh xw yh yw rs rt (by rw[(zu EWA).1,(zu EH).1]) (by rw[(zu EWA).2.1,(zu EH).2.1]) (by rw[(zu EWA).2.2,(zu EH).2.2]) (zu H).re (zu WA).re).mono ?_
 rintro e u16 ⟨rfl,bb⟩
 clear d0 d1 d2 d3 d4 d5 d6 d7 d8 d9 d10 dl v0 v1 v2 v3 v4 v5 v6 v7 v8 v9 v10 vl
 replace BB:=zh ((zu BB).trans (bb.mono (zu BB).size))
 replace WA:=zh ((zu WA).step bb)
 replace M:=zh ((zu M).step bb)
 replace H:=zh ((zu H).step bb)
 clear bb
 obtain⟨d0,d1,d2,d3,d4,d5,d6,d7,d8,d9,d10⟩:=(zu M).k.cs
 have dl:=(zu M).k.lt
 go_wp2_with fail
 refine(heldE _ loG gg ru xg yg rs rt (zu M)).mono ?_
 rintro e u17 ⟨rfl,bb⟩
 clear d0 d1 d2 d3 d4 d5 d6 d7 d8 d9 d10 dl
 replace BB:=zh ((zu BB).trans (bb.mono (zu BB).size))
 replace WA:=zh ((zu WA).step bb)
 replace M:=zh ((zu M).step bb)
 replace H:=zh ((zu H).step bb)
 clear bb
 go_wp2
 go_ret
 exact⟨rfl,zu BB⟩
set_option maxRecDepth 100000 in
theorem lifted(os:Os)(started:os.Started)(H:Type)(enc:TypeId×Value→H):
  ReturnsInHanded {} Tryz.checked os 4 .any (Rows.fnExactEngineNewSpec.pre6 enc Tryz.prog Tryz.f4 Rows.fnExactEngineNewRow.domain false) (Rows.fnExactEngineNewSpec.post enc Tryz.prog Tryz.f4 false true false false):=by
 refine returnsInHanded_of_change (C:=Tryz.checked) own started (by kernel_rfl) Tryz.func4
  (ChangeSpec.witness6 (enc:=enc) (C:=Tryz.checked) false ⟨#[],#[.int .i64 0],[]⟩ 8 (by kernel_rfl) (by kernel_rfl) (by kernel_rfl) (by kernel_rfl)) ?_
 intro W base args ds gs before hval0 hW hcnd _
 have hval:∀(j:Nat) t v,Tryz.f4.params[j]?=some t→args[j]?=some v→Value.okWide Tryz.prog W .any base t v:=hval0
 have hW':=hW
 obtain⟨p,q,hA0,hV,rfl,hfz,hnd⟩:=hW
 have hA:DataW.TrodAll enc Tryz.prog W 0 (fun _=>true) true Tryz.f4.params.toList args.toList ds p:=hA0
 rw[Tryz.params4] at hA hval
 obtain⟨v0,vs0,d0,ds0,p0,q0,hargs,rfl,rfl,h0,r0⟩:=trodAll_cons hA
 obtain⟨rfl,rfl,rfl⟩:=trodAll_nil r0
 obtain rfl:args= #[v0]:=by cases args;simp_all
 obtain⟨rfl,rfl⟩:=trodVars_none hV
 obtain⟨a0,rfl,rfl,rfl,w0⟩:=open_int Tryz.underlying3 (hval 0 3 v0 rfl rfl) h0
 clear hA0 hval0
 refine(walk a0 W w0).mono fun e W' ⟨he,bel⟩=>?_
 subst he
 exact⟨_,rfl,_,_,_,[],_,[],hW',trodAll_mk1 (shut_bool Tryz.underlying4 _),(trodAll_cons_mk (shut_int Tryz.underlying3 w0) trodAll_mk0),rfl,bel.frame _,fun h=>by cases h⟩
theorem over:Rows.fnExactEngineNewRow.holds Tryz.pinned (OpenSpec.ofChange Rows.fnExactEngineNewSpec):=
 OpenClaim.holds_of_wide 4 Tryz.f4 rfl rfl rfl rfl rfl rfl rfl ⟨rfl,rfl,rfl,rfl,rfl⟩ rfl rfl rfl rfl rfl (by kernel_rfl) Tryz.func4 (by kernel_rfl)
  (of_decide_eq_true (by kernel_rfl)) (by unfold Func.isWrapper;first|(rw[if_pos (by decide+kernel)];kernel_rfl)|(rw[if_neg (by decide+kernel)];exact⟨rfl,rfl⟩))
  (fun os started H enc _=>lifted os started H enc)
theorem proved:Rows.FnExactEngineNewSaid:=over
#print axioms proved
end Go.Proofs.YtlbgfdpcgpijhaaGreat.fnExactEngineNew
