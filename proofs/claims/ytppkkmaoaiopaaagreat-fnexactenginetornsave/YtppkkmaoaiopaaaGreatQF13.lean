/- Lemmas. -/
import Derived.Test.YtppkkmaoaiopaaaGreatQF2
import Derived.Test.YtppkkmaoaiopaaaGreatQF11
import Derived.Test.YtppkkmaoaiopaaaGreatQF12
open Go.ChangeShapes Go.WideShapes Go.ChangeAt Go.RowKit
set_option linter.unusedVariables false
set_option linter.unusedSimpArgs false
set_option maxRecDepth 100000
set_option maxHeartbeats 32000000
namespace Go.Proofs.YtppkkmaoaiopaaaGreat
namespace OpensB
open BMem Bks BHelp BkEq
theorem slice_cell{H:Type}{enc:TypeId×Value→H}{P:Program}{w:World}{base:Nat}{spare:Nat→Bool}{held:Bool}{t e:TypeId}{fuel:Nat}{v:Value}{x:DataW H×List MemPlace}
  (ht:P.underlying t=some (.slice e))(h:DataW.trod enc P w base spare held fuel t [v]=some x):∃a len cap,v= .slice a len cap:=by
 rcases Deep.open_slice ht h with⟨hcs,_⟩|⟨b,l,c,m,n,D,Pl,hcs,_⟩
 ·simp at hcs
  exact⟨_,_,_,hcs⟩
 ·simp at hcs
  exact⟨_,_,_,hcs⟩
theorem struct_cells{H:Type}{enc:TypeId×Value→H}{P:Program}{w:World}{base:Nat}{spare:Nat→Bool}{held:Bool}{e:TypeId}{f0 f1 f2 f3 f4 f5:Field}{fuel:Nat}{cs:List Value}{x:DataW H×List MemPlace}
  (he:P.underlying e=some (.struct #[f0,f1,f2,f3,f4,f5]))(hc:(P.cellsOf e==6&&P.cellsOf f0.type==1&&P.cellsOf f1.type==1&&P.cellsOf f2.type==1&&P.cellsOf f3.type==1&&P.cellsOf f4.type==1&&P.cellsOf f5.type==1&&f0.offset==0&&f1.offset==1&&f2.offset==2&&f3.offset==3&&f4.offset==4&&f5.offset==5)=true)
  (h:DataW.trod enc P w base spare held fuel e cs=some x):∃v0 v1 v2 v3 v4 v5 k x0 x1 x2 x3 x4 x5,cs=[v0,v1,v2,v3,v4,v5]∧DataW.trod enc P w base spare held k f0.type [v0]=some x0∧DataW.trod enc P w base spare held k f1.type [v1]=some x1∧DataW.trod enc P w base spare held k f2.type [v2]=some x2∧DataW.trod enc P w base spare held k f3.type [v3]=some x3∧DataW.trod enc P w base spare held k f4.type [v4]=some x4∧DataW.trod enc P w base spare held k f5.type [v5]=some x5:=by
 simp at hc
 obtain⟨⟨⟨⟨⟨⟨⟨⟨⟨⟨⟨⟨ce,k0⟩,k1⟩,k2⟩,k3⟩,k4⟩,k5⟩,o0⟩,o1⟩,o2⟩,o3⟩,o4⟩,o5⟩:=hc
 obtain⟨xs,k,_,_,hl,hlen,hf⟩:=DataW.trod_struct he h
 rw[ce] at hl
 match xs,hlen,cs,hl with
 |[y0,y1,y2,y3,y4,y5],_,[v0,v1,v2,v3,v4,v5],_=>
  have g0:=hf 0 f0 rfl
  have g1:=hf 1 f1 rfl
  have g2:=hf 2 f2 rfl
  have g3:=hf 3 f3 rfl
  have g4:=hf 4 f4 rfl
  have g5:=hf 5 f5 rfl
  simp[o0,k0] at g0
  simp[o1,k1] at g1
  simp[o2,k2] at g2
  simp[o3,k3] at g3
  simp[o4,k4] at g4
  simp[o5,k5] at g5
  exact⟨v0,v1,v2,v3,v4,v5,k,_,_,_,_,_,_,rfl,g0,g1,g2,g3,g4,g5⟩
end OpensB
namespace LawE17
open Fil14 OpensF14 BMem Bks BHelp BkEq
theorem five_cells{H:Type}{enc:TypeId×Value→H}{P:Program}{w:World}{base:Nat}{spare:Nat→Bool}{held:Bool}{e:TypeId}{f0 f1 f2 f3 f4:Field}{fuel:Nat}{cs:List Value}{x:DataW H×List MemPlace}
  (he:P.underlying e=some (.struct #[f0,f1,f2,f3,f4]))(hc:(P.cellsOf e==11&&P.cellsOf f0.type==1&&P.cellsOf f1.type==2&&P.cellsOf f2.type==6&&P.cellsOf f3.type==1&&P.cellsOf f4.type==1&&f0.offset==0&&f1.offset==1&&f2.offset==3&&f3.offset==9&&f4.offset==10)=true)
  (h:DataW.trod enc P w base spare held fuel e cs=some x):∃v0 v1 v2 v3 v4 v5 v6 v7 v8 v9 v10 k x0 x1 x2 x3 x4,cs=[v0,v1,v2,v3,v4,v5,v6,v7,v8,v9,v10]∧DataW.trod enc P w base spare held k f0.type [v0]=some x0∧DataW.trod enc P w base spare held k f1.type [v1,v2]=some x1∧DataW.trod enc P w base spare held k f2.type [v3,v4,v5,v6,v7,v8]=some x2∧DataW.trod enc P w base spare held k f3.type [v9]=some x3∧DataW.trod enc P w base spare held k f4.type [v10]=some x4:=by
 simp at hc
 obtain⟨⟨⟨⟨⟨⟨⟨⟨⟨⟨ce,k0⟩,k1⟩,k2⟩,k3⟩,k4⟩,o0⟩,o1⟩,o2⟩,o3⟩,o4⟩:=hc
 obtain⟨xs,k,_,_,hl,hlen,hf⟩:=DataW.trod_struct he h
 rw[ce] at hl
 match xs,hlen,cs,hl with
 |[y0,y1,y2,y3,y4],_,[v0,v1,v2,v3,v4,v5,v6,v7,v8,v9,v10],_=>
  have g0:=hf 0 f0 rfl
  have g1:=hf 1 f1 rfl
  have g2:=hf 2 f2 rfl
  have g3:=hf 3 f3 rfl
  have g4:=hf 4 f4 rfl
  simp[o0,k0] at g0
  simp[o1,k1] at g1
  simp[o2,k2] at g2
  simp[o3,k3] at g3
  simp[o4,k4] at g4
  exact⟨v0,v1,v2,v3,v4,v5,v6,v7,v8,v9,v10,k,_,_,_,_,_,rfl,g0,g1,g2,g3,g4⟩
theorem open_engine{H:Type}{enc:TypeId×Value→H}{w:World}{base b0':Nat}{spare:Nat→Bool}{held:Bool}{r:Reach}{v:Value}{d:DataW H}{p:List MemPlace}
  (hv:Value.okWide Tryz.prog w r b0' 33 v)(h:DataW.Trod enc Tryz.prog w base spare held 33 v d p):∃(up:Bool) (n:Int) (a:Option Addr) (len cap:Nat) (ps:List TF) (y:Ix) (sg ct:Int),v= .agg #[.bool up,.int .i64 n,.slice a len cap,.slice y.aa y.b.ac.length y.ca,.slice y.ai y.b.ic.length y.ci,.slice y.ab y.b.bs.length y.cb,.slice y.al y.b.ls.length y.cl,.slice y.ats y.b.ts.length y.ct,.int .i64 y.b.lot,.int .i64 sg,.int .i64 ct]∧ps.length=len∧len≤9223372036854775807∧ReadsF w a ps∧FitF ps∧RdI w y∧Fits y.b:=by
 obtain⟨cs,rfl,_⟩:=okWide_struct Tryz.underlying33 hv
 obtain⟨fuel,hf⟩:=h
 obtain⟨u0,u1,u2,u3,u4,u5,u6,u7,u8,u9,u10,k',xu,xd,xb,xs,xc,e,gu,gd,gb,gs,gc⟩:=five_cells (cs:=cs.toList) Tryz.underlying33 (by kernel_rfl) (by simpa[Value.cells] using hf)
 obtain⟨up,q,_⟩:=DataW.trod_bool Tryz.underlying4 gu
 simp at q
 subst q
 obtain⟨sg,q,_⟩:=DataW.trod_int Tryz.underlying3 gs
 simp at q
 subst q
 obtain⟨ct,q,_⟩:=DataW.trod_int Tryz.underlying3 gc
 simp at q
 subst q
 obtain⟨v0,v1,k,x0,x1,e1,g0,g1⟩:=struct_cells2 Tryz.underlying24 (by kernel_rfl) gd
 simp only[List.cons.injEq,and_true] at e1
 obtain⟨rfl,rfl⟩:=e1
 obtain⟨n,q,_⟩:=DataW.trod_int Tryz.underlying3 g0
 simp at q
 subst q
 obtain⟨a,len,cap,rfl⟩:∃a len cap,u2= .slice a len cap:=by
  rcases Deep.open_slice Tryz.underlying22 g1 with⟨hcs,_⟩|⟨b,l,c,m,n,D,Pl,hcs,_⟩
  ·simp at hcs
   exact⟨none,0,0,hcs⟩
  ·simp at hcs
   exact⟨_,_,_,hcs⟩
 obtain⟨ps,h1,h2,h3,h4⟩:=open_files (a:=a) (len:=len) (cap:=cap) Tryz.underlying22 Tryz.underlying126 (by kernel_rfl) Tryz.underlying3 Tryz.underlying9 (by simpa[Value.cells] using g1)
 obtain⟨q0,q1,q2,q3,q4,q5,k2,y0,y1,y2,y3,y4,y5,eq,b0,b1,b2,b3,b4,b5⟩:=OpensB.struct_cells Tryz.underlying31 (by kernel_rfl) gb
 simp only[List.cons.injEq,and_true] at eq
 obtain⟨rfl,rfl,rfl,rfl,rfl,rfl⟩:=eq
 obtain⟨a0,l0,c0,rfl⟩:=OpensB.slice_cell Tryz.underlying25 b0
 obtain⟨a1,l1,c1,rfl⟩:=OpensB.slice_cell Tryz.underlying26 b1
 obtain⟨a2,l2,c2,rfl⟩:=OpensB.slice_cell Tryz.underlying27 b2
 obtain⟨a3,l3,c3,rfl⟩:=OpensB.slice_cell Tryz.underlying28 b3
 obtain⟨a4,l4,c4,rfl⟩:=OpensB.slice_cell Tryz.underlying29 b4
 obtain⟨z,q,_⟩:=DataW.trod_int Tryz.underlying3 b5
 simp at q
 subst q
 obtain⟨p0,rfl,m0,r0⟩:=Opens.open_pairs Tryz.underlying25 Tryz.underlying155 (by kernel_rfl) Tryz.underlying3 (a:=a0) (len:=l0) (cap:=c0) b0
 obtain⟨p1,rfl,m1,r1⟩:=Opens.open_pairs Tryz.underlying26 Tryz.underlying157 (by kernel_rfl) Tryz.underlying3 (a:=a1) (len:=l1) (cap:=c1) b1
 obtain⟨p2,rfl,m2,r2⟩:=Opens3.open_triples Tryz.underlying27 Tryz.underlying159 (by kernel_rfl) Tryz.underlying3 (a:=a2) (len:=l2) (cap:=c2) b2
 obtain⟨p3,rfl,m3,r3⟩:=Opens5.open_rows Tryz.underlying28 Tryz.underlying161 (by kernel_rfl) Tryz.underlying3 (a:=a3) (len:=l3) (cap:=c3) b3
 obtain⟨p4,rfl,m4,r4⟩:=Opens8.open_rows Tryz.underlying29 Tryz.underlying163 (by kernel_rfl) Tryz.underlying3 (a:=a4) (len:=l4) (cap:=c4) b4
 exact⟨up,n,a,len,cap,ps,⟨a0,c0,a1,c1,a2,c2,a3,c3,a4,c4,⟨p0,p1,p2,p3,p4,z⟩⟩,sg,ct,congrArg Value.agg (Array.ext' e),h1,h2,h3,h4,⟨r0,r1,r2,r3,r4⟩,⟨m0,m1,m2,m3,m4⟩⟩
end LawE17
namespace SSameZ17
open BMem Bks ILists
open Lots (Says says_of)
open IBalsFit (one_more)
def noB:Bk:=⟨[],[],[],[],[],0⟩
theorem sSameZ(w:World)(x:Bx)(b:Bool)(hx:Rd w x)(hb:Says b (x.b=noB)):
  Calls Tryz.prog 36 #[.agg #[.slice (some ⟨x.ga,0,none⟩) x.b.ac.length x.ca,.slice (some ⟨x.gi,0,none⟩) x.b.ic.length x.ci,.slice (some ⟨x.gb,0,none⟩) x.b.bs.length x.cb,.slice (some ⟨x.gl,0,none⟩) x.b.ls.length x.cl,.slice (some ⟨x.gt,0,none⟩) x.b.ts.length x.ct,.int .i64 x.b.lot],.agg #[.slice none 0 0,.slice none 0 0,.slice none 0 0,.slice none 0 0,.slice none 0 0,.int .i64 0]] w fun e w'=>e= .returned (.bool b)∧Below w.heap.size w w':=by
 have T:=zh hb
 have B1:=zh (one_more w (.cells #[.slice (some ⟨x.ga,0,none⟩) x.b.ac.length x.ca,.slice (some ⟨x.gi,0,none⟩) x.b.ic.length x.ci,.slice (some ⟨x.gb,0,none⟩) x.b.bs.length x.cb,.slice (some ⟨x.gl,0,none⟩) x.b.ls.length x.cl,.slice (some ⟨x.gt,0,none⟩) x.b.ts.length x.ct,.int .i64 x.b.lot] 44))
 have BB:=zh ((zu B1).trans ((one_more (w.alloc (.cells #[.slice (some ⟨x.ga,0,none⟩) x.b.ac.length x.ca,.slice (some ⟨x.gi,0,none⟩) x.b.ic.length x.ci,.slice (some ⟨x.gb,0,none⟩) x.b.bs.length x.cb,.slice (some ⟨x.gl,0,none⟩) x.b.ls.length x.cl,.slice (some ⟨x.gt,0,none⟩) x.b.ts.length x.ct,.int .i64 x.b.lot] 44)) (.cells #[.slice none 0 0,.slice none 0 0,.slice none 0 0,.slice none 0 0,.slice none 0 0,.int .i64 0] 44)).mono (zu B1).size))
 clear hb hx B1
 by_cases e0:x.b.ac.length=0
 case neg=>
  have F:=zh ((zu T).not (fun h=>e0 (by rw[h];rfl)))
  have h0:((x.b.ac.length:Int) !=0)=true:=bne_iff_ne.2 (by omega)
  clear e0 T
  go_enter Tryz.func36,Tryz.ntmps36
  go_wp2
  go_ret
  exact⟨by rw[zu F];rfl,zu BB⟩
 have h0:((x.b.ac.length:Int) !=0)=false:=by rw[bne_eq_false_iff_eq];omega
 have E0:=zh e0
 clear e0
 by_cases e1:x.b.ic.length=0
 case neg=>
  have F:=zh ((zu T).not (fun h=>e1 (by rw[h];rfl)))
  have h1:((x.b.ic.length:Int) !=0)=true:=bne_iff_ne.2 (by omega)
  clear e1 T
  go_enter Tryz.func36,Tryz.ntmps36
  go_wp2
  go_ret
  exact⟨by rw[zu F];rfl,zu BB⟩
 have h1:((x.b.ic.length:Int) !=0)=false:=by rw[bne_eq_false_iff_eq];omega
 have E1:=zh e1
 clear e1
 by_cases e2:x.b.bs.length=0
 case neg=>
  have F:=zh ((zu T).not (fun h=>e2 (by rw[h];rfl)))
  have h2:((x.b.bs.length:Int) !=0)=true:=bne_iff_ne.2 (by omega)
  clear e2 T
  go_enter Tryz.func36,Tryz.ntmps36
  go_wp2
  go_ret
  exact⟨by rw[zu F];rfl,zu BB⟩
 have h2:((x.b.bs.length:Int) !=0)=false:=by rw[bne_eq_false_iff_eq];omega
 have E2:=zh e2
 clear e2
 by_cases e3:x.b.ls.length=0
 case neg=>
  have F:=zh ((zu T).not (fun h=>e3 (by rw[h];rfl)))
  have h3:((x.b.ls.length:Int) !=0)=true:=bne_iff_ne.2 (by omega)
  clear e3 T
  go_enter Tryz.func36,Tryz.ntmps36
  go_wp2
  go_ret
  exact⟨by rw[zu F];rfl,zu BB⟩
 have h3:((x.b.ls.length:Int) !=0)=false:=by rw[bne_eq_false_iff_eq];omega
 have E3:=zh e3
 clear e3
 by_cases e4:x.b.ts.length=0
 case neg=>
  have F:=zh ((zu T).not (fun h=>e4 (by rw[h];rfl)))
  have h4:((x.b.ts.length:Int) !=0)=true:=bne_iff_ne.2 (by omega)
  clear e4 T
  go_enter Tryz.func36,Tryz.ntmps36
  go_wp2
  go_ret
  exact⟨by rw[zu F];rfl,zu BB⟩
 have h4:((x.b.ts.length:Int) !=0)=false:=by rw[bne_eq_false_iff_eq];omega
 have E4:=zh e4
 clear e4
 by_cases e5:x.b.lot=0
 case neg=>
  have F:=zh ((zu T).not (fun h=>e5 (by rw[h];rfl)))
  have h5:(x.b.lot !=0)=true:=by simpa using e5
  clear e5 T
  go_enter Tryz.func36,Tryz.ntmps36
  go_wp2
  go_ret
  exact⟨by rw[zu F];rfl,zu BB⟩
 have h5:(x.b.lot !=0)=false:=by simpa using e5
 have F:=zh ((zu T).of (show x.b=noB by
  have a0:=List.eq_nil_of_length_eq_zero (zu E0)
  have a1:=List.eq_nil_of_length_eq_zero (zu E1)
  have a2:=List.eq_nil_of_length_eq_zero (zu E2)
  have a3:=List.eq_nil_of_length_eq_zero (zu E3)
  have a4:=List.eq_nil_of_length_eq_zero (zu E4)
  generalize x.b=y at *
  obtain⟨y0,y1,y2,y3,y4,y5⟩:=y
  simp only at a0 a1 a2 a3 a4 e5
  subst a0 a1 a2 a3 a4 e5
  rfl))
 have t0:¬((0:Int)<(x.b.ac.length:Int)):=by have:=zu E0;omega
 have t1:¬((0:Int)<(x.b.ic.length:Int)):=by have:=zu E1;omega
 have t2:¬((0:Int)<(x.b.bs.length:Int)):=by have:=zu E2;omega
 have t3:¬((0:Int)<(x.b.ls.length:Int)):=by have:=zu E3;omega
 have t4:¬((0:Int)<(x.b.ts.length:Int)):=by have:=zu E4;omega
 clear e5 T E0 E1 E2 E3 E4
 go_enter Tryz.func36,Tryz.ntmps36
 go_wp2
 go_loop [5] (fun j=>j= .int .i64 0) (fun _=>0)
 case atStart=>rfl
 case round=>
  subst hrel
  go_wp2
  go_loop [6] (fun j=>j= .int .i64 0) (fun _=>0)
  case atStart=>rfl
  case round=>
   subst hrel
   go_wp2
   go_loop [7] (fun j=>j= .int .i64 0) (fun _=>0)
   case atStart=>rfl
   case round=>
    subst hrel
    go_wp2
    go_loop [8] (fun j=>j= .int .i64 0) (fun _=>0)
    case atStart=>rfl
    case round=>
     subst hrel
     go_wp2
     go_loop [9] (fun j=>j= .int .i64 0) (fun _=>0)
     case atStart=>rfl
     case round=>
      subst hrel
      go_wp2
      go_ret
      exact⟨by rw[zu F];rfl,zu BB⟩
end SSameZ17
namespace SameZI17
open SSameZ17
open BMem
open Bks (Bk)
open Lots (Says says_of)
theorem eqNilAccount(w:World)(a:Option Addr)(n c:Nat)(b:Bool)(hn:n≤1048576)(hb:decide (n=0)=b):Calls Tryz.prog 157 #[.slice a n c,.slice none 0 0] w fun e w'=>e= .returned (.bool b)∧w'=w:=by
 subst hb
 by_cases e0:n=0
 ·subst e0
  go_enter Tryz.func157,Tryz.ntmps157
  go_wp2
  go_loopw [13] (fun i wr=>i= .int .i64 0∧wr=w) (fun _ _=>0)
  case atStart=>exact⟨rfl,rfl⟩
  case round=>
   obtain⟨rfl,rfl⟩:=hrel
   go_wp2
   go_ret
   exact⟨rfl,rfl⟩
 ·have h0:((n:Int) !=0)=true:=by simp;omega
  have E:=zh (show decide (n=0)=false from decide_eq_false e0)
  clear e0
  go_enter Tryz.func157,Tryz.ntmps157
  go_wp2
  go_ret
  exact⟨by rw[zu E];rfl,rfl⟩
theorem eqNilInstr(w:World)(a:Option Addr)(n c:Nat)(b:Bool)(hn:n≤1048576)(hb:decide (n=0)=b):Calls Tryz.prog 158 #[.slice a n c,.slice none 0 0] w fun e w'=>e= .returned (.bool b)∧w'=w:=by
 subst hb
 by_cases e0:n=0
 ·subst e0
  go_enter Tryz.func158,Tryz.ntmps158
  go_wp2
  go_loopw [13] (fun i wr=>i= .int .i64 0∧wr=w) (fun _ _=>0)
  case atStart=>exact⟨rfl,rfl⟩
  case round=>
   obtain⟨rfl,rfl⟩:=hrel
   go_wp2
   go_ret
   exact⟨rfl,rfl⟩
 ·have h0:((n:Int) !=0)=true:=by simp;omega
  have E:=zh (show decide (n=0)=false from decide_eq_false e0)
  clear e0
  go_enter Tryz.func158,Tryz.ntmps158
  go_wp2
  go_ret
  exact⟨by rw[zu E];rfl,rfl⟩
theorem eqNilBal(w:World)(a:Option Addr)(n c:Nat)(b:Bool)(hn:n≤1048576)(hb:decide (n=0)=b):Calls Tryz.prog 159 #[.slice a n c,.slice none 0 0] w fun e w'=>e= .returned (.bool b)∧w'=w:=by
 subst hb
 by_cases e0:n=0
 ·subst e0
  go_enter Tryz.func159,Tryz.ntmps159
  go_wp2
  go_loopw [13] (fun i wr=>i= .int .i64 0∧wr=w) (fun _ _=>0)
  case atStart=>exact⟨rfl,rfl⟩
  case round=>
   obtain⟨rfl,rfl⟩:=hrel
   go_wp2
   go_ret
   exact⟨rfl,rfl⟩
 ·have h0:((n:Int) !=0)=true:=by simp;omega
  have E:=zh (show decide (n=0)=false from decide_eq_false e0)
  clear e0
  go_enter Tryz.func159,Tryz.ntmps159
  go_wp2
  go_ret
  exact⟨by rw[zu E];rfl,rfl⟩
theorem eqNilLot(w:World)(a:Option Addr)(n c:Nat)(b:Bool)(hn:n≤1048576)(hb:decide (n=0)=b):Calls Tryz.prog 160 #[.slice a n c,.slice none 0 0] w fun e w'=>e= .returned (.bool b)∧w'=w:=by
 subst hb
 by_cases e0:n=0
 ·subst e0
  go_enter Tryz.func160,Tryz.ntmps160
  go_wp2
  go_loopw [13] (fun i wr=>i= .int .i64 0∧wr=w) (fun _ _=>0)
  case atStart=>exact⟨rfl,rfl⟩
  case round=>
   obtain⟨rfl,rfl⟩:=hrel
   go_wp2
   go_ret
   exact⟨rfl,rfl⟩
 ·have h0:((n:Int) !=0)=true:=by simp;omega
  have E:=zh (show decide (n=0)=false from decide_eq_false e0)
  clear e0
  go_enter Tryz.func160,Tryz.ntmps160
  go_wp2
  go_ret
  exact⟨by rw[zu E];rfl,rfl⟩
theorem eqNilTrade(w:World)(a:Option Addr)(n c:Nat)(b:Bool)(hn:n≤1048576)(hb:decide (n=0)=b):Calls Tryz.prog 161 #[.slice a n c,.slice none 0 0] w fun e w'=>e= .returned (.bool b)∧w'=w:=by
 subst hb
 by_cases e0:n=0
 ·subst e0
  go_enter Tryz.func161,Tryz.ntmps161
  go_wp2
  go_loopw [13] (fun i wr=>i= .int .i64 0∧wr=w) (fun _ _=>0)
  case atStart=>exact⟨rfl,rfl⟩
  case round=>
   obtain⟨rfl,rfl⟩:=hrel
   go_wp2
   go_ret
   exact⟨rfl,rfl⟩
 ·have h0:((n:Int) !=0)=true:=by simp;omega
  have E:=zh (show decide (n=0)=false from decide_eq_false e0)
  clear e0
  go_enter Tryz.func161,Tryz.ntmps161
  go_wp2
  go_ret
  exact⟨by rw[zu E];rfl,rfl⟩
theorem iSameZ(w:World)(z:Bx)(b:Bool)(hz:Rd w z)(hb:Says b (z.b=noB)):
  Calls Tryz.prog 138 #[.agg #[.slice (some ⟨z.ga,0,none⟩) z.b.ac.length z.ca,.slice (some ⟨z.gi,0,none⟩) z.b.ic.length z.ci,.slice (some ⟨z.gb,0,none⟩) z.b.bs.length z.cb,.slice (some ⟨z.gl,0,none⟩) z.b.ls.length z.cl,.slice (some ⟨z.gt,0,none⟩) z.b.ts.length z.ct,.int .i64 z.b.lot],.agg #[.slice none 0 0,.slice none 0 0,.slice none 0 0,.slice none 0 0,.slice none 0 0,.int .i64 0]] w fun e w'=>e= .returned (.bool b)∧Below w.heap.size w w':=by
 have N:=zh (And.intro hz.na (And.intro hz.ni (And.intro hz.nb (And.intro hz.nl hz.nt))))
 have T:=zh hb
 clear hz hb
 obtain⟨p0,hp0⟩:∃p,decide (z.b.ac.length=0)=p:=⟨_,rfl⟩
 have E0:=zh hp0
 obtain⟨p1,hp1⟩:∃p,decide (z.b.ic.length=0)=p:=⟨_,rfl⟩
 have E1:=zh hp1
 obtain⟨p2,hp2⟩:∃p,decide (z.b.bs.length=0)=p:=⟨_,rfl⟩
 have E2:=zh hp2
 obtain⟨p3,hp3⟩:∃p,decide (z.b.ls.length=0)=p:=⟨_,rfl⟩
 have E3:=zh hp3
 obtain⟨p4,hp4⟩:∃p,decide (z.b.ts.length=0)=p:=⟨_,rfl⟩
 have E4:=zh hp4
 have F:=zh (show b=(p0&&p1&&p2&&p3&&p4&&(z.b.lot==0)) from by
  have A:b=true↔(p0=true∧p1=true∧p2=true∧p3=true∧p4=true∧z.b.lot=0):=by
   rw[show b=true↔z.b=noB from zu T,←hp0,←hp1,←hp2,←hp3,←hp4]
   simp only[decide_eq_true_eq,List.length_eq_zero_iff]
   generalize z.b=q
   cases q
   simp[noB]
  have B:(p0&&p1&&p2&&p3&&p4&&(z.b.lot==0))=true↔(p0=true∧p1=true∧p2=true∧p3=true∧p4=true∧z.b.lot=0):=by simp[and_assoc]
  rw[Bool.eq_iff_iff,A,B])
 clear T hp0 hp1 hp2 hp3 hp4
 have c0:((w.alloc (.cells #[.slice (some ⟨z.ga,0,none⟩) z.b.ac.length z.ca,.slice (some ⟨z.gi,0,none⟩) z.b.ic.length z.ci,.slice (some ⟨z.gb,0,none⟩) z.b.bs.length z.cb,.slice (some ⟨z.gl,0,none⟩) z.b.ls.length z.cl,.slice (some ⟨z.gt,0,none⟩) z.b.ts.length z.ct,.int .i64 z.b.lot] 44)).alloc (.cells #[.slice none 0 0,.slice none 0 0,.slice none 0 0,.slice none 0 0,.slice none 0 0,.int .i64 0] 44)).cell? ⟨w.heap.size,0,none⟩=some (.slice (some ⟨z.ga,0,none⟩) z.b.ac.length z.ca):=by simp
 have c1:((w.alloc (.cells #[.slice (some ⟨z.ga,0,none⟩) z.b.ac.length z.ca,.slice (some ⟨z.gi,0,none⟩) z.b.ic.length z.ci,.slice (some ⟨z.gb,0,none⟩) z.b.bs.length z.cb,.slice (some ⟨z.gl,0,none⟩) z.b.ls.length z.cl,.slice (some ⟨z.gt,0,none⟩) z.b.ts.length z.ct,.int .i64 z.b.lot] 44)).alloc (.cells #[.slice none 0 0,.slice none 0 0,.slice none 0 0,.slice none 0 0,.slice none 0 0,.int .i64 0] 44)).cell? ⟨w.heap.size,1,none⟩=some (.slice (some ⟨z.gi,0,none⟩) z.b.ic.length z.ci):=by simp
 have c2:((w.alloc (.cells #[.slice (some ⟨z.ga,0,none⟩) z.b.ac.length z.ca,.slice (some ⟨z.gi,0,none⟩) z.b.ic.length z.ci,.slice (some ⟨z.gb,0,none⟩) z.b.bs.length z.cb,.slice (some ⟨z.gl,0,none⟩) z.b.ls.length z.cl,.slice (some ⟨z.gt,0,none⟩) z.b.ts.length z.ct,.int .i64 z.b.lot] 44)).alloc (.cells #[.slice none 0 0,.slice none 0 0,.slice none 0 0,.slice none 0 0,.slice none 0 0,.int .i64 0] 44)).cell? ⟨w.heap.size,2,none⟩=some (.slice (some ⟨z.gb,0,none⟩) z.b.bs.length z.cb):=by simp
 have c3:((w.alloc (.cells #[.slice (some ⟨z.ga,0,none⟩) z.b.ac.length z.ca,.slice (some ⟨z.gi,0,none⟩) z.b.ic.length z.ci,.slice (some ⟨z.gb,0,none⟩) z.b.bs.length z.cb,.slice (some ⟨z.gl,0,none⟩) z.b.ls.length z.cl,.slice (some ⟨z.gt,0,none⟩) z.b.ts.length z.ct,.int .i64 z.b.lot] 44)).alloc (.cells #[.slice none 0 0,.slice none 0 0,.slice none 0 0,.slice none 0 0,.slice none 0 0,.int .i64 0] 44)).cell? ⟨w.heap.size,3,none⟩=some (.slice (some ⟨z.gl,0,none⟩) z.b.ls.length z.cl):=by simp
 have c4:((w.alloc (.cells #[.slice (some ⟨z.ga,0,none⟩) z.b.ac.length z.ca,.slice (some ⟨z.gi,0,none⟩) z.b.ic.length z.ci,.slice (some ⟨z.gb,0,none⟩) z.b.bs.length z.cb,.slice (some ⟨z.gl,0,none⟩) z.b.ls.length z.cl,.slice (some ⟨z.gt,0,none⟩) z.b.ts.length z.ct,.int .i64 z.b.lot] 44)).alloc (.cells #[.slice none 0 0,.slice none 0 0,.slice none 0 0,.slice none 0 0,.slice none 0 0,.int .i64 0] 44)).cell? ⟨w.heap.size,4,none⟩=some (.slice (some ⟨z.gt,0,none⟩) z.b.ts.length z.ct):=by simp
 have c5:((w.alloc (.cells #[.slice (some ⟨z.ga,0,none⟩) z.b.ac.length z.ca,.slice (some ⟨z.gi,0,none⟩) z.b.ic.length z.ci,.slice (some ⟨z.gb,0,none⟩) z.b.bs.length z.cb,.slice (some ⟨z.gl,0,none⟩) z.b.ls.length z.cl,.slice (some ⟨z.gt,0,none⟩) z.b.ts.length z.ct,.int .i64 z.b.lot] 44)).alloc (.cells #[.slice none 0 0,.slice none 0 0,.slice none 0 0,.slice none 0 0,.slice none 0 0,.int .i64 0] 44)).cell? ⟨w.heap.size,5,none⟩=some (.int .i64 z.b.lot):=by simp
 have g0:((w.alloc (.cells #[.slice (some ⟨z.ga,0,none⟩) z.b.ac.length z.ca,.slice (some ⟨z.gi,0,none⟩) z.b.ic.length z.ci,.slice (some ⟨z.gb,0,none⟩) z.b.bs.length z.cb,.slice (some ⟨z.gl,0,none⟩) z.b.ls.length z.cl,.slice (some ⟨z.gt,0,none⟩) z.b.ts.length z.ct,.int .i64 z.b.lot] 44)).alloc (.cells #[.slice none 0 0,.slice none 0 0,.slice none 0 0,.slice none 0 0,.slice none 0 0,.int .i64 0] 44)).cell? ⟨w.heap.size+1,0,none⟩=some (.slice none 0 0):=by simp
 have g1:((w.alloc (.cells #[.slice (some ⟨z.ga,0,none⟩) z.b.ac.length z.ca,.slice (some ⟨z.gi,0,none⟩) z.b.ic.length z.ci,.slice (some ⟨z.gb,0,none⟩) z.b.bs.length z.cb,.slice (some ⟨z.gl,0,none⟩) z.b.ls.length z.cl,.slice (some ⟨z.gt,0,none⟩) z.b.ts.length z.ct,.int .i64 z.b.lot] 44)).alloc (.cells #[.slice none 0 0,.slice none 0 0,.slice none 0 0,.slice none 0 0,.slice none 0 0,.int .i64 0] 44)).cell? ⟨w.heap.size+1,1,none⟩=some (.slice none 0 0):=by simp
 have g2:((w.alloc (.cells #[.slice (some ⟨z.ga,0,none⟩) z.b.ac.length z.ca,.slice (some ⟨z.gi,0,none⟩) z.b.ic.length z.ci,.slice (some ⟨z.gb,0,none⟩) z.b.bs.length z.cb,.slice (some ⟨z.gl,0,none⟩) z.b.ls.length z.cl,.slice (some ⟨z.gt,0,none⟩) z.b.ts.length z.ct,.int .i64 z.b.lot] 44)).alloc (.cells #[.slice none 0 0,.slice none 0 0,.slice none 0 0,.slice none 0 0,.slice none 0 0,.int .i64 0] 44)).cell? ⟨w.heap.size+1,2,none⟩=some (.slice none 0 0):=by simp
 have g3:((w.alloc (.cells #[.slice (some ⟨z.ga,0,none⟩) z.b.ac.length z.ca,.slice (some ⟨z.gi,0,none⟩) z.b.ic.length z.ci,.slice (some ⟨z.gb,0,none⟩) z.b.bs.length z.cb,.slice (some ⟨z.gl,0,none⟩) z.b.ls.length z.cl,.slice (some ⟨z.gt,0,none⟩) z.b.ts.length z.ct,.int .i64 z.b.lot] 44)).alloc (.cells #[.slice none 0 0,.slice none 0 0,.slice none 0 0,.slice none 0 0,.slice none 0 0,.int .i64 0] 44)).cell? ⟨w.heap.size+1,3,none⟩=some (.slice none 0 0):=by simp
 have g4:((w.alloc (.cells #[.slice (some ⟨z.ga,0,none⟩) z.b.ac.length z.ca,.slice (some ⟨z.gi,0,none⟩) z.b.ic.length z.ci,.slice (some ⟨z.gb,0,none⟩) z.b.bs.length z.cb,.slice (some ⟨z.gl,0,none⟩) z.b.ls.length z.cl,.slice (some ⟨z.gt,0,none⟩) z.b.ts.length z.ct,.int .i64 z.b.lot] 44)).alloc (.cells #[.slice none 0 0,.slice none 0 0,.slice none 0 0,.slice none 0 0,.slice none 0 0,.int .i64 0] 44)).cell? ⟨w.heap.size+1,4,none⟩=some (.slice none 0 0):=by simp
 have g5:((w.alloc (.cells #[.slice (some ⟨z.ga,0,none⟩) z.b.ac.length z.ca,.slice (some ⟨z.gi,0,none⟩) z.b.ic.length z.ci,.slice (some ⟨z.gb,0,none⟩) z.b.bs.length z.cb,.slice (some ⟨z.gl,0,none⟩) z.b.ls.length z.cl,.slice (some ⟨z.gt,0,none⟩) z.b.ts.length z.ct,.int .i64 z.b.lot] 44)).alloc (.cells #[.slice none 0 0,.slice none 0 0,.slice none 0 0,.slice none 0 0,.slice none 0 0,.int .i64 0] 44)).cell? ⟨w.heap.size+1,5,none⟩=some (.int .i64 0):=by simp
 have BB:Below w.heap.size w ((w.alloc (.cells #[.slice (some ⟨z.ga,0,none⟩) z.b.ac.length z.ca,.slice (some ⟨z.gi,0,none⟩) z.b.ic.length z.ci,.slice (some ⟨z.gb,0,none⟩) z.b.bs.length z.cb,.slice (some ⟨z.gl,0,none⟩) z.b.ls.length z.cl,.slice (some ⟨z.gt,0,none⟩) z.b.ts.length z.ct,.int .i64 z.b.lot] 44)).alloc (.cells #[.slice none 0 0,.slice none 0 0,.slice none 0 0,.slice none 0 0,.slice none 0 0,.int .i64 0] 44)):=((Below.refl _ _).alloc (Nat.le_refl _) _).alloc (by simp) _
 go_enter Tryz.func138,Tryz.ntmps138
 go_wp2_with fail
 generalize (w.alloc (.cells #[.slice (some ⟨z.ga,0,none⟩) z.b.ac.length z.ca,.slice (some ⟨z.gi,0,none⟩) z.b.ic.length z.ci,.slice (some ⟨z.gb,0,none⟩) z.b.bs.length z.cb,.slice (some ⟨z.gl,0,none⟩) z.b.ls.length z.cl,.slice (some ⟨z.gt,0,none⟩) z.b.ts.length z.ct,.int .i64 z.b.lot] 44)).alloc (.cells #[.slice none 0 0,.slice none 0 0,.slice none 0 0,.slice none 0 0,.slice none 0 0,.int .i64 0] 44)=W at *
 have B1:=zh BB
 clear BB
 refine(eqNilAccount _ (some ⟨z.ga,0,none⟩) z.b.ac.length z.ca p0 (zu N).1 (zu E0)).mono ?_
 rintro e u ⟨rfl,rfl⟩
 cases p0
 ·go_wp2
  go_ret
  exact⟨by rw[zu F];simp,zu B1⟩
 go_wp2_with fail
 refine(eqNilInstr _ (some ⟨z.gi,0,none⟩) z.b.ic.length z.ci p1 (zu N).2.1 (zu E1)).mono ?_
 rintro e u ⟨rfl,rfl⟩
 cases p1
 ·go_wp2
  go_ret
  exact⟨by rw[zu F];simp,zu B1⟩
 go_wp2_with fail
 refine(eqNilBal _ (some ⟨z.gb,0,none⟩) z.b.bs.length z.cb p2 (zu N).2.2.1 (zu E2)).mono ?_
 rintro e u ⟨rfl,rfl⟩
 cases p2
 ·go_wp2
  go_ret
  exact⟨by rw[zu F];simp,zu B1⟩
 go_wp2_with fail
 refine(eqNilLot _ (some ⟨z.gl,0,none⟩) z.b.ls.length z.cl p3 (zu N).2.2.2.1 (zu E3)).mono ?_
 rintro e u ⟨rfl,rfl⟩
 cases p3
 ·go_wp2
  go_ret
  exact⟨by rw[zu F];simp,zu B1⟩
 go_wp2_with fail
 refine(eqNilTrade _ (some ⟨z.gt,0,none⟩) z.b.ts.length z.ct p4 (zu N).2.2.2.2 (zu E4)).mono ?_
 rintro e u ⟨rfl,rfl⟩
 cases p4
 ·go_wp2
  go_ret
  exact⟨by rw[zu F];simp,zu B1⟩
 go_wp2
 go_ret
 exact⟨by rw[zu F];rfl,zu B1⟩
end SameZI17
end Go.Proofs.YtppkkmaoaiopaaaGreat
