/- Texts of one proof. -/
import Derived.Test.YtlbgfdpcgpijhaaGreatQA2
import Derived.Test.YtlbgfdpcgpijhaaGreatQA19
open Go.ChangeShapes Go.WideShapes Go.ChangeAt Go.RowKit
set_option linter.unusedVariables false
set_option linter.unusedSimpArgs false
set_option maxRecDepth 100000
set_option maxHeartbeats 32000000
namespace Go.Proofs.YtlbgfdpcgpijhaaGreat
namespace LawE17
open Fil14 OpensF14 BMem Bks BHelp BkEq
theorem five_cells{H:Type}{enc:TypeId×Value→H}{P:Program}{w:World}{base:Nat}{spare:Nat→Bool}{held:Bool}{e:TypeId}{f0 f1 f2 f3 f4:Field}{fuel:Nat}{cs:List Value}{x:DataW H×List MemPlace}
  (he:P.underlying e=some (.struct #[f0,f1,f2,f3,f4]))(hc:(P.cellsOf e==11&&P.cellsOf f0.type==1&&P.cellsOf f1.type==2&&P.cellsOf f2.type==6&&P.cellsOf f3.type==1&&P.cellsOf f4.type==1&&f0.offset==0&&f1.offset==1&&f2.offset==3&&f3.offset==9&&f4.offset==10)=true)
  (h:DataW.trod enc P w base spare held fuel e cs=some x):∃v0 v1 v2 v3 v4 v5 v6 v7 v8 v9 v10 k x0 x1 x2 x3 x4,cs=[v0,v1,v2,v3,v4,v5,v6,v7,v8,v9,v10]∧DataW.trod enc P w base spare held k f0.type [v0]=some x0∧DataW.trod enc P w base spare held k f1.type [v1,v2]=some x1∧DataW.trod enc P w base spare held k f2.type [v3,v4,v5,v6,v7,v8]=some x2∧DataW.trod enc P w base spare held k f3.type [v9]=some x3∧DataW.trod enc P w base spare held k f4.type [v10]=some x4:=by
 simp at hc
 obtain⟨⟨⟨⟨⟨⟨⟨⟨⟨⟨ce,k0⟩,k1⟩,k2⟩,k3⟩,k4⟩,o0⟩,o1⟩,o2⟩,o3⟩,o4⟩:=hc
 obtain⟨xs,k,_,_,hl,hlen,hf⟩:=DataW.trod_struct he h
 rw[ce] at hl
 match xs,hlen,cs,hl with
 |[y0,y1,y2,y3,y4],_,[v0,v1,v2,v3,v4,v5,v6,v7,v8,v9,v10],_=>
  have g0:=hf 0 f0 rfl
  have g1:=hf 1 f1 rfl
  have g2:=hf 2 f2 rfl
  have g3:=hf 3 f3 rfl
  have g4:=hf 4 f4 rfl
  simp[o0,k0] at g0
  simp[o1,k1] at g1
  simp[o2,k2] at g2
  simp[o3,k3] at g3
  simp[o4,k4] at g4
  exact⟨v0,v1,v2,v3,v4,v5,v6,v7,v8,v9,v10,k,_,_,_,_,_,rfl,g0,g1,g2,g3,g4⟩
theorem open_engine{H:Type}{enc:TypeId×Value→H}{w:World}{base b0':Nat}{spare:Nat→Bool}{held:Bool}{r:Reach}{v:Value}{d:DataW H}{p:List MemPlace}
  (hv:Value.okWide Tryz.prog w r b0' 33 v)(h:DataW.Trod enc Tryz.prog w base spare held 33 v d p):∃(up:Bool) (n:Int) (a:Option Addr) (len cap:Nat) (ps:List TF) (y:Ix) (sg ct:Int),v= .agg #[.bool up,.int .i64 n,.slice a len cap,.slice y.aa y.b.ac.length y.ca,.slice y.ai y.b.ic.length y.ci,.slice y.ab y.b.bs.length y.cb,.slice y.al y.b.ls.length y.cl,.slice y.ats y.b.ts.length y.ct,.int .i64 y.b.lot,.int .i64 sg,.int .i64 ct]∧ps.length=len∧len≤9223372036854775807∧ReadsF w a ps∧FitF ps∧RdI w y∧Fits y.b:=by
 obtain⟨cs,rfl,_⟩:=okWide_struct Tryz.underlying33 hv
 obtain⟨fuel,hf⟩:=h
 obtain⟨u0,u1,u2,u3,u4,u5,u6,u7,u8,u9,u10,k',xu,xd,xb,xs,xc,e,gu,gd,gb,gs,gc⟩:=five_cells (cs:=cs.toList) Tryz.underlying33 (by kernel_rfl) (by simpa[Value.cells] using hf)
 obtain⟨up,q,_⟩:=DataW.trod_bool Tryz.underlying4 gu
 simp at q
 subst q
 obtain⟨sg,q,_⟩:=DataW.trod_int Tryz.underlying3 gs
 simp at q
 subst q
 obtain⟨ct,q,_⟩:=DataW.trod_int Tryz.underlying3 gc
 simp at q
 subst q
 obtain⟨v0,v1,k,x0,x1,e1,g0,g1⟩:=struct_cells2 Tryz.underlying24 (by kernel_rfl) gd
 simp only[List.cons.injEq,and_true] at e1
 obtain⟨rfl,rfl⟩:=e1
 obtain⟨n,q,_⟩:=DataW.trod_int Tryz.underlying3 g0
 simp at q
 subst q
 obtain⟨a,len,cap,rfl⟩:∃a len cap,u2= .slice a len cap:=by
  rcases Deep.open_slice Tryz.underlying22 g1 with⟨hcs,_⟩|⟨b,l,c,m,n,D,Pl,hcs,_⟩
  ·simp at hcs
   exact⟨none,0,0,hcs⟩
  ·simp at hcs
   exact⟨_,_,_,hcs⟩
 obtain⟨ps,h1,h2,h3,h4⟩:=open_files (a:=a) (len:=len) (cap:=cap) Tryz.underlying22 Tryz.underlying153 (by kernel_rfl) Tryz.underlying3 Tryz.underlying9 (by simpa[Value.cells] using g1)
 obtain⟨q0,q1,q2,q3,q4,q5,k2,y0,y1,y2,y3,y4,y5,eq,b0,b1,b2,b3,b4,b5⟩:=OpensB.struct_cells Tryz.underlying31 (by kernel_rfl) gb
 simp only[List.cons.injEq,and_true] at eq
 obtain⟨rfl,rfl,rfl,rfl,rfl,rfl⟩:=eq
 obtain⟨a0,l0,c0,rfl⟩:=OpensB.slice_cell Tryz.underlying25 b0
 obtain⟨a1,l1,c1,rfl⟩:=OpensB.slice_cell Tryz.underlying26 b1
 obtain⟨a2,l2,c2,rfl⟩:=OpensB.slice_cell Tryz.underlying27 b2
 obtain⟨a3,l3,c3,rfl⟩:=OpensB.slice_cell Tryz.underlying28 b3
 obtain⟨a4,l4,c4,rfl⟩:=OpensB.slice_cell Tryz.underlying29 b4
 obtain⟨z,q,_⟩:=DataW.trod_int Tryz.underlying3 b5
 simp at q
 subst q
 obtain⟨p0,rfl,m0,r0⟩:=Opens.open_pairs Tryz.underlying25 Tryz.underlying166 (by kernel_rfl) Tryz.underlying3 (a:=a0) (len:=l0) (cap:=c0) b0
 obtain⟨p1,rfl,m1,r1⟩:=Opens.open_pairs Tryz.underlying26 Tryz.underlying168 (by kernel_rfl) Tryz.underlying3 (a:=a1) (len:=l1) (cap:=c1) b1
 obtain⟨p2,rfl,m2,r2⟩:=Opens3.open_triples Tryz.underlying27 Tryz.underlying170 (by kernel_rfl) Tryz.underlying3 (a:=a2) (len:=l2) (cap:=c2) b2
 obtain⟨p3,rfl,m3,r3⟩:=Opens5.open_rows Tryz.underlying28 Tryz.underlying172 (by kernel_rfl) Tryz.underlying3 (a:=a3) (len:=l3) (cap:=c3) b3
 obtain⟨p4,rfl,m4,r4⟩:=Opens8.open_rows Tryz.underlying29 Tryz.underlying174 (by kernel_rfl) Tryz.underlying3 (a:=a4) (len:=l4) (cap:=c4) b4
 exact⟨up,n,a,len,cap,ps,⟨a0,c0,a1,c1,a2,c2,a3,c3,a4,c4,⟨p0,p1,p2,p3,p4,z⟩⟩,sg,ct,congrArg Value.agg (Array.ext' e),h1,h2,h3,h4,⟨r0,r1,r2,r3,r4⟩,⟨m0,m1,m2,m3,m4⟩⟩
end LawE17
end Go.Proofs.YtlbgfdpcgpijhaaGreat
