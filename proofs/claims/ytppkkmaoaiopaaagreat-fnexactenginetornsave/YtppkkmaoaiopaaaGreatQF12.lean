/- Lemmas. -/
import Derived.Test.YtppkkmaoaiopaaaGreatQF4
import Derived.Deep.Strs
open Go.ChangeShapes Go.WideShapes Go.ChangeAt Go.RowKit
set_option linter.unusedVariables false
set_option linter.unusedSimpArgs false
set_option maxRecDepth 100000
set_option maxHeartbeats 32000000
namespace Go.Proofs.YtppkkmaoaiopaaaGreat
namespace OpensF14
open Fil14
def FitF(ps:List TF):Prop:=∀p∈ps,p.2.1.size≤9223372036854775807∧p.2.2.size≤9223372036854775807
theorem open_files{H:Type}{enc:TypeId×Value→H}{P:Program}{w:World}{base:Nat}{spare:Nat→Bool}{held:Bool}{t e i s:TypeId}{f0 f1 f2:Field}{fuel:Nat}{a:Option Addr}{len cap:Nat}{x:DataW H×List MemPlace}
  (ht:P.underlying t=some (.slice e))(he:P.underlying e=some (.struct #[f0,f1,f2]))
  (hc:(P.cellsOf e==3&&P.cellsOf i==1&&f0.type==i&&f1.type==s&&f2.type==s&&P.cellsOf s==1&&f0.offset==0&&f1.offset==1&&f2.offset==2)=true)(hi:P.underlying i=some (.int .i64))(hs:P.underlying s=some .string)
  (h:DataW.trod enc P w base spare held fuel t (Value.slice a len cap).cells.toList=some x):∃ps:List TF,ps.length=len∧len≤9223372036854775807∧ReadsF w a ps∧FitF ps:=by
 simp at hc
 obtain⟨⟨⟨⟨⟨⟨⟨⟨ce,ci⟩,e0⟩,e1⟩,e2⟩,cs⟩,o0⟩,o1⟩,o2⟩:=hc
 rcases Deep.open_slice ht h with⟨hcs,_⟩|⟨b,l,c,m,n,D,Pl,hcs,_,hlc,hm,hmm,_,hx⟩
 ·simp[Value.cells] at hcs
  obtain⟨rfl,rfl,rfl⟩:=hcs
  exact⟨[],rfl,by omega,.inl rfl,fun p hp=>by simp at hp⟩
 ·simp[Value.cells] at hcs
  obtain⟨rfl,rfl,rfl⟩:=hcs
  have hlm:len≤m:=by rw[hmm];split<;>omega
  have each:∀j,j<len→∃p:TF,w.cell? (b.add (j*3))=some (.int .i64 p.1)∧w.cell? (b.add (j*3+1))=some (.string p.2.1)∧w.cell? (b.add (j*3+2))=some (.string p.2.2)∧(p.2.1.size≤9223372036854775807∧p.2.2.size≤9223372036854775807):=by
   intro j hj
   obtain⟨cs',h1,h2⟩:=hx j (by omega)
   rw[ce] at h1
   obtain⟨_,hlen,hcell⟩:=World.cells?_some h1
   obtain⟨y0,y1,y2,k,_,_,g0,g1,g2⟩:=Deep.trod_struct3 he h2
   match cs',hlen with
   |[v0,v1,v2],_=>
    rw[e0] at g0
    rw[e1] at g1
    rw[e2] at g2
    simp[o0,o1,o2,ci,cs] at g0 g1 g2
    obtain⟨x0,q0,_⟩:=DataW.trod_int hi g0
    obtain⟨x1,q1,_,m1⟩:=DataW.trod_string hs g1
    obtain⟨x2,q2,_,m2⟩:=DataW.trod_string hs g2
    simp at q0 q1 q2
    subst q0 q1 q2
    have d0:=hcell 0 (by omega)
    have d1:=hcell 1 (by omega)
    have d2:=hcell 2 (by omega)
    rw[Deep.add_add] at d0 d1 d2
    exact⟨(x0,x1,x2),by simpa using d0,by simpa using d1,by simpa using d2,by unfold maxLen at m1;exact m1,by unfold maxLen at m2;exact m2⟩
  obtain⟨q,hq⟩:=Deep.choose_lt each
  refine⟨(List.range len).map q,by simp,by unfold maxLen at hm;omega,?_,fun p hp=>by
   obtain⟨j,hj,rfl⟩:=List.mem_map.1 hp
   exact(hq j (by simpa using hj)).2.2.2⟩
  by_cases z:len=0
  ·exact .inl (by simp[z])
  ·obtain⟨blk,off,spot⟩:=b
   have c0:=(hq 0 (by omega)).1
   have hspot:spot=none:=by simpa[Addr.add] using World.cell?_spot c0
   subst hspot
   have c0':w.cell? ⟨blk,off,none⟩=some (.int .i64 (q 0).1):=by simpa[Addr.add] using c0
   refine .inr ⟨blk,off,rfl,World.block_lt_of_cell? w _ c0',fun j hj=>?_⟩
   have hj':j<len:=by simpa using hj
   obtain⟨p0,p1,p2,_⟩:=hq j hj'
   rw[Addr.add_lit] at p0 p1 p2
   have hg:elF ((List.range len).map q) j=q j:=by simp[List.getD,hj']
   rw[hg]
   exact⟨p0,by rw[Nat.add_assoc];exact p1,by rw[Nat.add_assoc];exact p2⟩
theorem struct_cells2{H:Type}{enc:TypeId×Value→H}{P:Program}{w:World}{base:Nat}{spare:Nat→Bool}{held:Bool}{e:TypeId}{f0 f1:Field}{fuel:Nat}{cs:List Value}{x:DataW H×List MemPlace}
  (he:P.underlying e=some (.struct #[f0,f1]))(hc:(P.cellsOf e==2&&P.cellsOf f0.type==1&&P.cellsOf f1.type==1&&f0.offset==0&&f1.offset==1)=true)
  (h:DataW.trod enc P w base spare held fuel e cs=some x):∃v0 v1 k x0 x1,cs=[v0,v1]∧DataW.trod enc P w base spare held k f0.type [v0]=some x0∧DataW.trod enc P w base spare held k f1.type [v1]=some x1:=by
 simp at hc
 obtain⟨⟨⟨⟨ce,k0⟩,k1⟩,o0⟩,o1⟩:=hc
 obtain⟨xs,k,_,_,hl,hlen,hf⟩:=DataW.trod_struct he h
 rw[ce] at hl
 match xs,hlen,cs,hl with
 |[y0,y1],_,[v0,v1],_=>
  have g0:=hf 0 f0 rfl
  have g1:=hf 1 f1 rfl
  simp[o0,k0] at g0
  simp[o1,k1] at g1
  exact⟨v0,v1,k,_,_,rfl,g0,g1⟩
end OpensF14
namespace Opens3
open Bals Triples
theorem open_triples{H:Type}{enc:TypeId×Value→H}{P:Program}{w:World}{base:Nat}{spare:Nat→Bool}{held:Bool}{t e i:TypeId}{f0 f1 f2:Field}{fuel:Nat}{a:Option Addr}{len cap:Nat}{x:DataW H×List MemPlace}
  (ht:P.underlying t=some (.slice e))(he:P.underlying e=some (.struct #[f0,f1,f2]))
  (hc:(P.cellsOf e==3&&P.cellsOf i==1&&f0.type==i&&f1.type==i&&f2.type==i&&f0.offset==0&&f1.offset==1&&f2.offset==2)=true)(hi:P.underlying i=some (.int .i64))
  (h:DataW.trod enc P w base spare held fuel t (Value.slice a len cap).cells.toList=some x):∃ps:List T3,ps.length=len∧len≤9223372036854775807∧Reads3 w a ps:=by
 simp at hc
 obtain⟨⟨⟨⟨⟨⟨⟨ce,ci⟩,e0⟩,e1⟩,e2⟩,o0⟩,o1⟩,o2⟩:=hc
 rcases Deep.open_slice ht h with⟨hcs,_⟩|⟨b,l,c,m,n,D,Pl,hcs,_,hlc,hm,hmm,_,hx⟩
 ·simp[Value.cells] at hcs
  obtain⟨rfl,rfl,rfl⟩:=hcs
  exact⟨[],rfl,by omega,.inl rfl⟩
 ·simp[Value.cells] at hcs
  obtain⟨rfl,rfl,rfl⟩:=hcs
  have hlm:len≤m:=by rw[hmm];split<;>omega
  have each:∀j,j<len→∃p:T3,w.cell? (b.add (j*3))=some (.int .i64 p.1)∧w.cell? (b.add (j*3+1))=some (.int .i64 p.2.1)∧w.cell? (b.add (j*3+2))=some (.int .i64 p.2.2):=by
   intro j hj
   obtain⟨cs',h1,h2⟩:=hx j (by omega)
   rw[ce] at h1
   obtain⟨_,hlen,hcell⟩:=World.cells?_some h1
   obtain⟨y0,y1,y2,k,_,_,g0,g1,g2⟩:=Deep.trod_struct3 he h2
   match cs',hlen with
   |[v0,v1,v2],_=>
    rw[e0] at g0
    rw[e1] at g1
    rw[e2] at g2
    simp[o0,o1,o2,ci] at g0 g1 g2
    obtain⟨x0,q0,_⟩:=DataW.trod_int hi g0
    obtain⟨x1,q1,_⟩:=DataW.trod_int hi g1
    obtain⟨x2,q2,_⟩:=DataW.trod_int hi g2
    simp at q0 q1 q2
    subst q0 q1 q2
    have d0:=hcell 0 (by omega)
    have d1:=hcell 1 (by omega)
    have d2:=hcell 2 (by omega)
    rw[Deep.add_add] at d0 d1 d2
    exact⟨(x0,x1,x2),by simpa using d0,by simpa using d1,by simpa using d2⟩
  obtain⟨q,hq⟩:=Deep.choose_lt each
  refine⟨(List.range len).map q,by simp,by unfold maxLen at hm;omega,?_⟩
  by_cases z:len=0
  ·exact .inl (by simp[z])
  ·obtain⟨blk,off,spot⟩:=b
   have c0:=(hq 0 (by omega)).1
   have hspot:spot=none:=by simpa[Addr.add] using World.cell?_spot c0
   subst hspot
   have c0':w.cell? ⟨blk,off,none⟩=some (.int .i64 (q 0).1):=by simpa[Addr.add] using c0
   refine .inr ⟨blk,off,rfl,World.block_lt_of_cell? w _ c0',fun j hj=>?_⟩
   have hj':j<len:=by simpa using hj
   obtain⟨p0,p1,p2⟩:=hq j hj'
   rw[Addr.add_lit] at p0 p1 p2
   have hg:el3 ((List.range len).map q) j=q j:=by simp[List.getD,hj']
   rw[hg]
   exact⟨p0,by rw[Nat.add_assoc];exact p1,by rw[Nat.add_assoc];exact p2⟩
end Opens3
namespace Opens5
open Tup5
theorem cells_of{H:Type}{enc:TypeId×Value→H}{P:Program}{w:World}{base:Nat}{spare:Nat→Bool}{held:Bool}{e i:TypeId}{f0 f1 f2 f3 f4:Field}{fuel:Nat}{cs:List Value}{x:DataW H×List MemPlace}
  (he:P.underlying e=some (.struct #[f0,f1,f2,f3,f4]))(hc:(P.cellsOf e==5&&P.cellsOf i==1&&f0.type==i&&f1.type==i&&f2.type==i&&f3.type==i&&f4.type==i&&f0.offset==0&&f1.offset==1&&f2.offset==2&&f3.offset==3&&f4.offset==4)=true)(hi:P.underlying i=some (.int .i64))
  (h:DataW.trod enc P w base spare held fuel e cs=some x):∃p:T5,cs=[.int .i64 p.1,.int .i64 p.2.1,.int .i64 p.2.2.1,.int .i64 p.2.2.2.1,.int .i64 p.2.2.2.2]:=by
 simp at hc
 obtain⟨⟨⟨⟨⟨⟨⟨⟨⟨⟨⟨ce,ci⟩,e0⟩,e1⟩,e2⟩,e3⟩,e4⟩,o0⟩,o1⟩,o2⟩,o3⟩,o4⟩:=hc
 obtain⟨xs,k,_,_,hl,hlen,hf⟩:=DataW.trod_struct he h
 rw[ce] at hl
 match xs,hlen,cs,hl with
 |[y0,y1,y2,y3,y4],_,[v0,v1,v2,v3,v4],_=>
  have g0:=hf 0 f0 rfl
  have g1:=hf 1 f1 rfl
  have g2:=hf 2 f2 rfl
  have g3:=hf 3 f3 rfl
  have g4:=hf 4 f4 rfl
  rw[e0] at g0
  simp[o0,ci] at g0
  obtain⟨x0,q0,_⟩:=DataW.trod_int hi g0
  simp at q0
  rw[e1] at g1
  simp[o1,ci] at g1
  obtain⟨x1,q1,_⟩:=DataW.trod_int hi g1
  simp at q1
  rw[e2] at g2
  simp[o2,ci] at g2
  obtain⟨x2,q2,_⟩:=DataW.trod_int hi g2
  simp at q2
  rw[e3] at g3
  simp[o3,ci] at g3
  obtain⟨x3,q3,_⟩:=DataW.trod_int hi g3
  simp at q3
  rw[e4] at g4
  simp[o4,ci] at g4
  obtain⟨x4,q4,_⟩:=DataW.trod_int hi g4
  simp at q4
  subst q0 q1 q2 q3 q4
  exact⟨(x0,x1,x2,x3,x4),rfl⟩
theorem open_rows{H:Type}{enc:TypeId×Value→H}{P:Program}{w:World}{base:Nat}{spare:Nat→Bool}{held:Bool}{t e i:TypeId}{f0 f1 f2 f3 f4:Field}{fuel:Nat}{a:Option Addr}{len cap:Nat}{x:DataW H×List MemPlace}
  (ht:P.underlying t=some (.slice e))(he:P.underlying e=some (.struct #[f0,f1,f2,f3,f4]))(hc:(P.cellsOf e==5&&P.cellsOf i==1&&f0.type==i&&f1.type==i&&f2.type==i&&f3.type==i&&f4.type==i&&f0.offset==0&&f1.offset==1&&f2.offset==2&&f3.offset==3&&f4.offset==4)=true)(hi:P.underlying i=some (.int .i64))
  (h:DataW.trod enc P w base spare held fuel t (Value.slice a len cap).cells.toList=some x):∃ps:List T5,ps.length=len∧len≤9223372036854775807∧Reads5 w a ps:=by
 have ce:P.cellsOf e=5:=by
  simp at hc
  exact hc.1.1.1.1.1.1.1.1.1.1.1
 rcases Deep.open_slice ht h with⟨hcs,_⟩|⟨b,l,c,m,n,D,Pl,hcs,_,hlc,hm,hmm,_,hx⟩
 ·simp[Value.cells] at hcs
  obtain⟨rfl,rfl,rfl⟩:=hcs
  exact⟨[],rfl,by omega,.inl rfl⟩
 ·simp[Value.cells] at hcs
  obtain⟨rfl,rfl,rfl⟩:=hcs
  have hlm:len≤m:=by rw[hmm];split<;>omega
  have each:∀j,j<len→∃p:T5,w.cell? (b.add (j*5))=some (.int .i64 p.1)∧w.cell? (b.add (j*5+1))=some (.int .i64 p.2.1)∧w.cell? (b.add (j*5+2))=some (.int .i64 p.2.2.1)∧w.cell? (b.add (j*5+3))=some (.int .i64 p.2.2.2.1)∧w.cell? (b.add (j*5+4))=some (.int .i64 p.2.2.2.2):=by
   intro j hj
   obtain⟨cs',h1,h2⟩:=hx j (by omega)
   rw[ce] at h1
   obtain⟨_,hlen,hcell⟩:=World.cells?_some h1
   obtain⟨p,rfl⟩:=cells_of he hc hi h2
   have d0:=hcell 0 (by omega)
   have d1:=hcell 1 (by omega)
   have d2:=hcell 2 (by omega)
   have d3:=hcell 3 (by omega)
   have d4:=hcell 4 (by omega)
   rw[Deep.add_add] at d0 d1 d2 d3 d4
   exact⟨p,by simpa using d0,by simpa using d1,by simpa using d2,by simpa using d3,by simpa using d4⟩
  obtain⟨q,hq⟩:=Deep.choose_lt each
  refine⟨(List.range len).map q,by simp,by unfold maxLen at hm;omega,?_⟩
  by_cases z:len=0
  ·exact .inl (by simp[z])
  ·obtain⟨blk,off,spot⟩:=b
   have c0:=(hq 0 (by omega)).1
   have hspot:spot=none:=by simpa[Addr.add] using World.cell?_spot c0
   subst hspot
   have c0':w.cell? ⟨blk,off,none⟩=some (.int .i64 (q 0).1):=by simpa[Addr.add] using c0
   refine .inr ⟨blk,off,rfl,World.block_lt_of_cell? w _ c0',fun j hj=>?_⟩
   have hj':j<len:=by simpa using hj
   obtain⟨p0,p1,p2,p3,p4⟩:=hq j hj'
   rw[Addr.add_lit] at p0 p1 p2 p3 p4
   have hg:el5 ((List.range len).map q) j=q j:=by simp[List.getD,hj']
   rw[hg]
   exact⟨p0,by rw[Nat.add_assoc];exact p1,by rw[Nat.add_assoc];exact p2,by rw[Nat.add_assoc];exact p3,by rw[Nat.add_assoc];exact p4⟩
end Opens5
namespace Opens8
open Tup8
theorem cells_of{H:Type}{enc:TypeId×Value→H}{P:Program}{w:World}{base:Nat}{spare:Nat→Bool}{held:Bool}{e i:TypeId}{f0 f1 f2 f3 f4 f5 f6 f7:Field}{fuel:Nat}{cs:List Value}{x:DataW H×List MemPlace}
  (he:P.underlying e=some (.struct #[f0,f1,f2,f3,f4,f5,f6,f7]))(hc:(P.cellsOf e==8&&P.cellsOf i==1&&f0.type==i&&f1.type==i&&f2.type==i&&f3.type==i&&f4.type==i&&f5.type==i&&f6.type==i&&f7.type==i&&f0.offset==0&&f1.offset==1&&f2.offset==2&&f3.offset==3&&f4.offset==4&&f5.offset==5&&f6.offset==6&&f7.offset==7)=true)(hi:P.underlying i=some (.int .i64))
  (h:DataW.trod enc P w base spare held fuel e cs=some x):∃p:T8,cs=[.int .i64 p.1,.int .i64 p.2.1,.int .i64 p.2.2.1,.int .i64 p.2.2.2.1,.int .i64 p.2.2.2.2.1,.int .i64 p.2.2.2.2.2.1,.int .i64 p.2.2.2.2.2.2.1,.int .i64 p.2.2.2.2.2.2.2]:=by
 simp at hc
 obtain⟨⟨⟨⟨⟨⟨⟨⟨⟨⟨⟨⟨⟨⟨⟨⟨⟨ce,ci⟩,e0⟩,e1⟩,e2⟩,e3⟩,e4⟩,e5⟩,e6⟩,e7⟩,o0⟩,o1⟩,o2⟩,o3⟩,o4⟩,o5⟩,o6⟩,o7⟩:=hc
 obtain⟨xs,k,_,_,hl,hlen,hf⟩:=DataW.trod_struct he h
 rw[ce] at hl
 match xs,hlen,cs,hl with
 |[y0,y1,y2,y3,y4,y5,y6,y7],_,[v0,v1,v2,v3,v4,v5,v6,v7],_=>
  have g0:=hf 0 f0 rfl
  have g1:=hf 1 f1 rfl
  have g2:=hf 2 f2 rfl
  have g3:=hf 3 f3 rfl
  have g4:=hf 4 f4 rfl
  have g5:=hf 5 f5 rfl
  have g6:=hf 6 f6 rfl
  have g7:=hf 7 f7 rfl
  rw[e0] at g0
  simp[o0,ci] at g0
  obtain⟨x0,q0,_⟩:=DataW.trod_int hi g0
  simp at q0
  rw[e1] at g1
  simp[o1,ci] at g1
  obtain⟨x1,q1,_⟩:=DataW.trod_int hi g1
  simp at q1
  rw[e2] at g2
  simp[o2,ci] at g2
  obtain⟨x2,q2,_⟩:=DataW.trod_int hi g2
  simp at q2
  rw[e3] at g3
  simp[o3,ci] at g3
  obtain⟨x3,q3,_⟩:=DataW.trod_int hi g3
  simp at q3
  rw[e4] at g4
  simp[o4,ci] at g4
  obtain⟨x4,q4,_⟩:=DataW.trod_int hi g4
  simp at q4
  rw[e5] at g5
  simp[o5,ci] at g5
  obtain⟨x5,q5,_⟩:=DataW.trod_int hi g5
  simp at q5
  rw[e6] at g6
  simp[o6,ci] at g6
  obtain⟨x6,q6,_⟩:=DataW.trod_int hi g6
  simp at q6
  rw[e7] at g7
  simp[o7,ci] at g7
  obtain⟨x7,q7,_⟩:=DataW.trod_int hi g7
  simp at q7
  subst q0 q1 q2 q3 q4 q5 q6 q7
  exact⟨(x0,x1,x2,x3,x4,x5,x6,x7),rfl⟩
theorem open_rows{H:Type}{enc:TypeId×Value→H}{P:Program}{w:World}{base:Nat}{spare:Nat→Bool}{held:Bool}{t e i:TypeId}{f0 f1 f2 f3 f4 f5 f6 f7:Field}{fuel:Nat}{a:Option Addr}{len cap:Nat}{x:DataW H×List MemPlace}
  (ht:P.underlying t=some (.slice e))(he:P.underlying e=some (.struct #[f0,f1,f2,f3,f4,f5,f6,f7]))(hc:(P.cellsOf e==8&&P.cellsOf i==1&&f0.type==i&&f1.type==i&&f2.type==i&&f3.type==i&&f4.type==i&&f5.type==i&&f6.type==i&&f7.type==i&&f0.offset==0&&f1.offset==1&&f2.offset==2&&f3.offset==3&&f4.offset==4&&f5.offset==5&&f6.offset==6&&f7.offset==7)=true)(hi:P.underlying i=some (.int .i64))
  (h:DataW.trod enc P w base spare held fuel t (Value.slice a len cap).cells.toList=some x):∃ps:List T8,ps.length=len∧len≤9223372036854775807∧Reads8 w a ps:=by
 have ce:P.cellsOf e=8:=by
  simp at hc
  exact hc.1.1.1.1.1.1.1.1.1.1.1.1.1.1.1.1.1
 rcases Deep.open_slice ht h with⟨hcs,_⟩|⟨b,l,c,m,n,D,Pl,hcs,_,hlc,hm,hmm,_,hx⟩
 ·simp[Value.cells] at hcs
  obtain⟨rfl,rfl,rfl⟩:=hcs
  exact⟨[],rfl,by omega,.inl rfl⟩
 ·simp[Value.cells] at hcs
  obtain⟨rfl,rfl,rfl⟩:=hcs
  have hlm:len≤m:=by rw[hmm];split<;>omega
  have each:∀j,j<len→∃p:T8,w.cell? (b.add (j*8))=some (.int .i64 p.1)∧w.cell? (b.add (j*8+1))=some (.int .i64 p.2.1)∧w.cell? (b.add (j*8+2))=some (.int .i64 p.2.2.1)∧w.cell? (b.add (j*8+3))=some (.int .i64 p.2.2.2.1)∧w.cell? (b.add (j*8+4))=some (.int .i64 p.2.2.2.2.1)∧w.cell? (b.add (j*8+5))=some (.int .i64 p.2.2.2.2.2.1)∧w.cell? (b.add (j*8+6))=some (.int .i64 p.2.2.2.2.2.2.1)∧w.cell? (b.add (j*8+7))=some (.int .i64 p.2.2.2.2.2.2.2):=by
   intro j hj
   obtain⟨cs',h1,h2⟩:=hx j (by omega)
   rw[ce] at h1
   obtain⟨_,hlen,hcell⟩:=World.cells?_some h1
   obtain⟨p,rfl⟩:=cells_of he hc hi h2
   have d0:=hcell 0 (by omega)
   have d1:=hcell 1 (by omega)
   have d2:=hcell 2 (by omega)
   have d3:=hcell 3 (by omega)
   have d4:=hcell 4 (by omega)
   have d5:=hcell 5 (by omega)
   have d6:=hcell 6 (by omega)
   have d7:=hcell 7 (by omega)
   rw[Deep.add_add] at d0 d1 d2 d3 d4 d5 d6 d7
   exact⟨p,by simpa using d0,by simpa using d1,by simpa using d2,by simpa using d3,by simpa using d4,by simpa using d5,by simpa using d6,by simpa using d7⟩
  obtain⟨q,hq⟩:=Deep.choose_lt each
  refine⟨(List.range len).map q,by simp,by unfold maxLen at hm;omega,?_⟩
  by_cases z:len=0
  ·exact .inl (by simp[z])
  ·obtain⟨blk,off,spot⟩:=b
   have c0:=(hq 0 (by omega)).1
   have hspot:spot=none:=by simpa[Addr.add] using World.cell?_spot c0
   subst hspot
   have c0':w.cell? ⟨blk,off,none⟩=some (.int .i64 (q 0).1):=by simpa[Addr.add] using c0
   refine .inr ⟨blk,off,rfl,World.block_lt_of_cell? w _ c0',fun j hj=>?_⟩
   have hj':j<len:=by simpa using hj
   obtain⟨p0,p1,p2,p3,p4,p5,p6,p7⟩:=hq j hj'
   rw[Addr.add_lit] at p0 p1 p2 p3 p4 p5 p6 p7
   have hg:el8 ((List.range len).map q) j=q j:=by simp[List.getD,hj']
   rw[hg]
   exact⟨p0,by rw[Nat.add_assoc];exact p1,by rw[Nat.add_assoc];exact p2,by rw[Nat.add_assoc];exact p3,by rw[Nat.add_assoc];exact p4,by rw[Nat.add_assoc];exact p5,by rw[Nat.add_assoc];exact p6,by rw[Nat.add_assoc];exact p7⟩
end Opens8
namespace DiskH14
open Fil14 OpensF14
theorem one_more(w:World)(o:Obj):Below w.heap.size w (w.alloc o):=(Below.refl _ _).alloc (Nat.le_refl _) _
def sumZ:List TF→Nat
 |[]=>0
 |p::r=>p.2.1.size+p.2.2.size+sumZ r
theorem sumZ_append(ps qs:List TF):sumZ (ps++qs)=sumZ ps+sumZ qs:=by
 induction ps with
 |nil=>simp[sumZ]
 |cons p r ih=>simp only[List.cons_append,sumZ,ih];omega
theorem sumZ_next{ps:List TF}{k:Nat}(h:k<ps.length):sumZ (ps.take (k+1))=sumZ (ps.take k)+((elF ps k).2.1.size+(elF ps k).2.2.size):=by
 rw[List.take_succ_eq_append_getElem h,sumZ_append]
 simp[sumZ,List.getD,h]
theorem fit_el{ps:List TF}(h:FitF ps){k:Nat}(hk:k<ps.length):(elF ps k).2.1.size≤9223372036854775807∧(elF ps k).2.2.size≤9223372036854775807:=by
 have:=h (ps[k]) (List.getElem_mem _)
 simpa[List.getD,hk] using this
theorem szF(w:World)(x:Int)(s t:ByteArray)(left:Int)(h0:0≤left)(h1:left≤1048576)(f1:s.size≤9223372036854775807)(f2:t.size≤9223372036854775807):
  Calls Tryz.prog 83 #[.agg #[.int .i64 x,.string s,.string t],.int .i64 left] w fun e w'=>∃r,e= .returned (.int .i64 r)∧(r= -1∨(0≤r∧r+s.size+t.size=left))∧Below w.heap.size w w':=by
 have B0:=zh (one_more w (.cells #[.int .i64 x,.string s,.string t] 126))
 generalize hn:s.size=n at *
 generalize hm:t.size=m at *
 have HN:=zh hn
 have HM:=zh hm
 by_cases q:left-(n:Int)<0
 ·go_enter Tryz.func83,Tryz.ntmps83
  go_wp2
  go_ret
  exact⟨-1,rfl,.inl rfl,zu B0⟩
 by_cases q2:left-(n:Int) -(m:Int)<0
 ·go_enter Tryz.func83,Tryz.ntmps83
  go_wp2
  go_ret
  exact⟨-1,rfl,.inl rfl,zu B0⟩
 ·go_enter Tryz.func83,Tryz.ntmps83
  go_wp2
  go_ret
  exact⟨left-n-m,rfl,.inr ⟨by omega,by omega⟩,zu B0⟩
theorem szFS(w:World)(a:Option Addr)(len cap:Nat)(ps:List TF)(hl:ps.length=len)(hx:len≤9223372036854775807)(hr:ReadsF w a ps)(hf:FitF ps):
  Calls Tryz.prog 29 #[.slice a len cap,.int .i64 1048576] w fun e w'=>∃r,e= .returned (.int .i64 r)∧(r= -1∨((0≤r∧r≤1048576)∧len≤1048576∧sumZ ps≤1048576))∧Below w.heap.size w w':=by
 have B0:=zh (Below.refl w.heap.size w)
 have R:=zh hr
 have HF:=zh hf
 have HL:=zh hl
 clear hr hf
 by_cases q:(1048576:Int) -(len:Int)<0
 ·clear hl
  go_enter Tryz.func29,Tryz.ntmps29
  go_wp2
  go_ret
  exact⟨-1,rfl,.inl rfl,zu B0⟩
 have l20:len≤1048576:=by omega
 go_enter Tryz.func29,Tryz.ntmps29
 go_wp2
 go_loopw [1,5] (fun m i wr=>∃(k:Nat) (left:Int),k≤len∧i= .int .i64 k∧m= .int .i64 left∧0≤left∧left≤1048576∧Hid (left+len+sumZ (ps.take k)=1048576)∧Hid (Below w.heap.size w wr)) (fun _ i _=>len-(intOf i).toNat)
 case atStart=>exact⟨0,1048576-(len:Int),by omega,rfl,rfl,by omega,by omega,zh (by simp[sumZ]),B0⟩
 case round=>
  clear B0
  obtain⟨k,left,hk,rfl,rfl,l0,l1,HS,HB⟩:=hrel
  by_cases t:k<len
  ·have tk:k<ps.length:=by omega
   have NX:=zh (sumZ_next tk)
   have F:=fit_el (zu HF) tk
   rcases(zu R).below (zu HB|>.mono (Nat.le_refl _)) with h|⟨b,off,rfl,lb,hc⟩
   ·omega
   obtain⟨d0,d1,d2⟩:=hc k tk
   have SF:=zh (fun u=>szF u (elF ps k).1 (elF ps k).2.1 (elF ps k).2.2 left l0 l1 F.1 F.2)
   have kt:(k:Int)<len:=by omega
   clear F hc
   generalize (elF ps k).1=y0 at *
   generalize (elF ps k).2.1=y1 at *
   generalize (elF ps k).2.2=y2 at *
   go_wp2_with fail
   refine((zu SF) _).mono ?_
   rintro e u ⟨r,rfl,hr,bb⟩
   have B1:=zh ((zu HB).trans (bb.mono (zu HB).size))
   clear bb SF
   rcases hr with rfl|⟨r0,r1⟩
   ·go_wp2
    go_ret
    exact⟨-1,rfl,.inl rfl,zu B1⟩
   ·have rn:¬r<0:=by omega
    have R1:=zh r1
    have L0:=zh (And.intro l0 l1)
    clear r1 l0 l1
    go_wp2
    go_roundw
    case rel=>exact⟨k+1,r,by omega,by go_num,rfl,r0,by have:=zu R1;have:=zu L0;omega,zh (by have:=zu R1;have:=zu HS;rw[zu NX];omega),B1⟩
    case measure=>simp[intOf];omega
  ·have e:k=len:=by omega
   subst e
   have S:=zu HS
   rw[←hl,List.take_length] at S
   have SS:=zh S
   have L0:=zh (And.intro l0 l1)
   clear S
   go_wp2
   go_ret
   exact⟨left,rfl,.inr ⟨zu L0,l20,by have:=zu SS;have:=zu L0;omega⟩,zu HB⟩
theorem szD(w:World)(room:Int)(a:Option Addr)(len cap:Nat)(ps:List TF)(hl:ps.length=len)(hx:len≤9223372036854775807)(hr:ReadsF w a ps)(hf:FitF ps):
  Calls Tryz.prog 11 #[.agg #[.int .i64 room,.slice a len cap],.int .i64 1048576] w fun e w'=>∃r,e= .returned (.int .i64 r)∧(r= -1∨((0≤r∧r≤1048576)∧len≤1048576∧sumZ ps≤1048576))∧Below w.heap.size w w':=by
 have b0:=one_more w (.cells #[.int .i64 room,.slice a len cap] 24)
 have S:=zh (szFS _ a len cap ps hl hx (hr.below b0) hf)
 have B0:=zh b0
 clear b0 hr hf
 go_enter Tryz.func11,Tryz.ntmps11
 go_wp2_with fail
 refine(zu S).mono ?_
 rintro e u ⟨r,rfl,h,bb⟩
 have B1:=zh ((zu B0).trans (bb.mono (zu B0).size))
 have H:=zh h
 clear bb S
 rcases h with rfl|⟨r0,_⟩
 ·go_wp2
  go_ret
  exact⟨-1,rfl,.inl rfl,zu B1⟩
 ·have rn:¬r<0:=by omega
  go_wp2
  go_ret
  exact⟨r,rfl,zu H,zu B1⟩
end DiskH14
namespace HelpF14
open Fil14
theorem info2:(Tryz.prog.info? 81).map (fun i=>(i.zero,i.size,i.bytes))=some (some (.agg #[.int .i64 0,.string ByteArray.empty,.string ByteArray.empty]),3,40):=by kernel_rfl
theorem to1(w:World)(x:Int)(y z:ByteArray):Calls Tryz.prog 104 #[.agg #[.int .i64 x,.string y,.string z]] w fun e w'=>e= .returned (.agg #[.int .i64 x,.string y,.string z])∧Below w.heap.size w w':=by
 go_enter Tryz.func104,Tryz.ntmps104
 go_wp2
 refine bodyPost_ret (v:= .agg #[.int .i64 x,.string y,.string z]) (by simp[results,Tryz.results104,go_sem]) rfl ⟨rfl,?_⟩
 exact(((Below.refl _ _).alloc (Nat.le_refl _) _).alloc (by simp) _).alloc (by simp;omega) _
theorem made_triples(n:Nat):(madeCells (Value.agg #[.int .i64 0,.string ByteArray.empty,.string ByteArray.empty]).cells (n*3)).toList=flatF (List.replicate n (0,ByteArray.empty,ByteArray.empty)):=by
 apply List.ext_getElem?
 intro j
 by_cases hj:j<n*3
 ·have hs:(Value.agg #[Value.int .i64 0,Value.string ByteArray.empty,Value.string ByteArray.empty]).cells= #[Value.int .i64 0,Value.string ByteArray.empty,Value.string ByteArray.empty]:=rfl
  rw[hs]
  obtain⟨f0,f1,f2⟩:=flatF_get (List.replicate n (0,ByteArray.empty,ByteArray.empty)) (j/3) (by simp;omega)
  have hg:(List.replicate n ((0:Int),ByteArray.empty,ByteArray.empty)).getD (j/3) (0,ByteArray.empty,ByteArray.empty)=(0,ByteArray.empty,ByteArray.empty):=by simp[List.getD,show j/3<n by omega]
  unfold elF at f0 f1 f2
  rw[hg] at f0 f1 f2
  rcases(show j%3=0∨j%3=1∨j%3=2 by omega) with e|e|e
  ·rw[show j/3*3=j by omega] at f0
   rw[f0]
   simp[madeCells,hj,e]
  ·rw[show j/3*3+1=j by omega] at f1
   rw[f1]
   simp[madeCells,hj,e]
  ·rw[show j/3*3+2=j by omega] at f2
   rw[f2]
   simp[madeCells,hj,e]
 ·rw[List.getElem?_eq_none (by simp[madeCells];omega),List.getElem?_eq_none (by rw[flatF_len];simp;omega)]
def part(ps:List TF)(n k:Nat):List TF:=ps.take k++List.replicate (n-k) (0,ByteArray.empty,ByteArray.empty)
theorem part_zero(ps:List TF)(n:Nat):part ps n 0=List.replicate n (0,ByteArray.empty,ByteArray.empty):=by simp[part]
theorem part_all(ps:List TF)(n:Nat)(h:ps.length=n):part ps n n=ps:=by
 unfold part
 rw[←h];simp
theorem part_step(ps:List TF)(n k:Nat)(h:ps.length=n)(hk:k<n):(((part ps n k).modify k fun p=>((elF ps k).1,p.2)).modify k (fun p=>(p.1,(elF ps k).2.1,p.2.2))).modify k (fun p=>(p.1,p.2.1,(elF ps k).2.2))=part ps n (k+1):=by
 subst h
 unfold part
 apply List.ext_getElem?
 intro j
 have l1:(ps.take k).length=k:=by simp;omega
 have l2:(ps.take (k+1)).length=k+1:=by simp;omega
 rw[List.getElem?_modify,List.getElem?_modify,List.getElem?_modify]
 by_cases e:k=j
 ·subst e
  rw[List.getElem?_append_right (by omega),List.getElem?_append_left (by omega),List.getElem?_take,if_pos (by omega),l1]
  simp[List.getD,hk,show 0<ps.length-k by omega]
 ·by_cases l:j<k
  ·rw[List.getElem?_append_left (by omega),List.getElem?_append_left (by omega),List.getElem?_take,List.getElem?_take,if_pos l,if_pos (by omega)]
   simp[e]
  ·rw[List.getElem?_append_right (by omega),List.getElem?_append_right (by omega),l1,l2]
   simp only[List.getElem?_replicate]
   by_cases m:j<ps.length
   ·rw[if_pos (by omega),if_pos (by omega)];simp[e]
   ·rw[if_neg (by omega),if_neg (by omega)];simp[e]
theorem toS(w:World)(a:Option Addr)(len cap:Nat)(ps:List TF)(hl:ps.length=len)(h20:len≤1048576)(hr:ReadsF w a ps):
  Calls Tryz.prog 52 #[.slice a len cap] w fun e w'=>e= .returned (.slice (some ⟨w.heap.size,0,none⟩) len len)∧OwnF 81 w' w.heap.size w.heap.size len len ps∧Below w.heap.size w w':=by
 obtain⟨i0,hi,hz0,hz1,hz2⟩:=info_parts info2
 go_enter Tryz.func52,Tryz.ntmps52
 go_wp2_with (at_make;refine wpList_make_full _ rfl _ _ 35 rfl w.heap.size 81 i0 (.agg #[.int .i64 0,.string ByteArray.empty,.string ByteArray.empty]) 3 Tryz.underlying35 hi hz0 hz1 .i64 .i64 _ _ len rfl rfl rfl rfl (by rw[hz2];omega) (by unfold maxLen;omega) (Nat.le_refl _) ?_;intro w1 hown hgrow)
 rw[made_triples,←part_zero ps] at hown
 have hb:=grownBy_below hgrow
 have hown:OwnF 81 w1 w.heap.size w.heap.size len len (part ps len 0):=hown
 clear hgrow
 go_loopw [4] (fun i wr=>∃(k:Nat),k≤len∧i= .int .i64 k∧OwnF 81 wr w.heap.size w.heap.size len len (part ps len k)∧Below w.heap.size w wr) (fun i _=>len-(intOf i).toNat)
 case atStart=>exact⟨0,by omega,rfl,hown,hb⟩
 case round=>
  clear hown hb
  obtain⟨k,hk,rfl,hown,hb⟩:=hrel
  by_cases t:k<len
  ·rcases hr with hz|⟨b,off,rfl,hlt,hcell⟩
   ·omega
   have hc0:=(hb.cell (p:=⟨b,off+k*3,none⟩) hlt).trans (hcell k (by omega)).1
   have hc1:=(hb.cell (p:=⟨b,off+k*3+1,none⟩) hlt).trans (hcell k (by omega)).2.1
   have hc2:=(hb.cell (p:=⟨b,off+k*3+2,none⟩) hlt).trans (hcell k (by omega)).2.2
   clear hcell
   have HO:=zh hown
   have HB:=zh hb
   clear hown hb
   have PS:=zh (part_step ps len k hl t)
   generalize (elF ps k).1=x at *
   generalize (elF ps k).2.1=y at *
   generalize (elF ps k).2.2=z at *
   go_wp2_with fail
   refine(to1 _ x y z).mono ?_
   rintro e w2 ⟨rfl,b2⟩
   have o2:=(zu HO).below b2 (zu HO).lt.2
   have hb2:=(zu HB).trans (b2.mono (zu HB).size)
   clear HO HB b2 hc0 hc1 hc2
   have hs:=o2.set0 k x
   have hs2:=hs.1.set1 k y
   have hs3:=hs2.1.set2 k z
   have hd:=o2.at k (by rw[o2.len];exact t)
   have hd0:=hd.1
   have hd1:=hd.2.1
   have hd2:=hd.2.2
   have hf0:=o2.free (k*3)
   have hf1:=o2.free (k*3+1)
   have hf2:=o2.free (k*3+2)
   have HS:=zh hs3.1
   have HB:=zh (((hb2.setCell (p:=⟨w.heap.size,k*3,none⟩) (Nat.le_refl _) (.int .i64 x)).setCell (p:=⟨w.heap.size,k*3+1,none⟩) (Nat.le_refl _) (.string y)).setCell (p:=⟨w.heap.size,k*3+2,none⟩) (Nat.le_refl _) (.string z))
   clear hs hs2 hs3 hd o2 hb2
   go_wp2
   go_roundw
   case rel=>
    have o:=zu HS
    rw[zu PS] at o
    exact⟨k+1,by omega,by go_num,o,zu HB⟩
   case measure=>simp[intOf];omega
  ·obtain rfl:k=len:=by omega
   rw[part_all ps k hl] at hown
   have HO:=zh hown
   have HB:=zh hb
   clear hown hb hr
   go_wp2
   go_ret
   exact⟨rfl,zu HO,zu HB⟩
theorem eq1(w:World)(x:Int)(y z:ByteArray):Calls Tryz.prog 117 #[.agg #[.int .i64 x,.string y,.string z],.agg #[.int .i64 x,.string y,.string z]] w fun e w'=>e= .returned (.bool true)∧w'=(w.alloc (.cells #[.int .i64 x,.string y,.string z] 81)).alloc (.cells #[.int .i64 x,.string y,.string z] 81):=by
 go_enter Tryz.func117,Tryz.ntmps117
 go_wp2
 go_ret
 exact⟨rfl,rfl⟩
theorem two_more(w:World)(o p:Obj):Below w.heap.size w ((w.alloc o).alloc p).drew:=(((Below.refl _ _).alloc (Nat.le_refl _) _).alloc (by simp) _).drew
theorem eqS(w:World)(g1 g2 n c1 c2:Nat)(ps:List TF)(hl:ps.length=n)(h20:n≤1048576)(l1:g1<w.heap.size)(l2:g2<w.heap.size)(h1:AtF w g1 ps)(h2:AtF w g2 ps):
  Calls Tryz.prog 65 #[.slice (some ⟨g1,0,none⟩) n c1,.slice (some ⟨g2,0,none⟩) n c2] w fun e w'=>e= .returned (.bool true)∧Below w.heap.size w w':=by
 go_enter Tryz.func65,Tryz.ntmps65
 go_wp2
 go_loopw [5] (fun i wr=>∃(k:Nat),k≤n∧i= .int .i64 k∧AtF wr g1 ps∧AtF wr g2 ps∧Below w.heap.size w wr) (fun i _=>n-(intOf i).toNat)
 case atStart=>exact⟨0,by omega,rfl,h1,h2,Below.refl _ _⟩
 case round=>
  clear h1 h2
  obtain⟨k,hk,rfl,h1,h2,hb⟩:=hrel
  by_cases t:k<n
  ·obtain⟨e1,f1,i1⟩:=h1 k (by omega)
   obtain⟨e2,f2,i2⟩:=h2 k (by omega)
   have s:=hb.size
   have H1:=zh h1
   have H2:=zh h2
   have HB:=zh hb
   clear h1 h2 hb
   generalize (elF ps k).1=x at *
   generalize (elF ps k).2.1=y at *
   generalize (elF ps k).2.2=z at *
   go_wp2_with fail
   go_region_held3 (fun w'=>w'.cell? ⟨g1,k*3,none⟩=some (.int .i64 x)∧w'.cell? ⟨g2,k*3,none⟩=some (.int .i64 x)∧w'.cell? ⟨g1,k*3+1,none⟩=some (.string y)∧w'.cell? ⟨g2,k*3+1,none⟩=some (.string y)∧w'.cell? ⟨g1,k*3+2,none⟩=some (.string z)∧w'.cell? ⟨g2,k*3+2,none⟩=some (.string z)) (go_keep)
    (first|(go_at_call 117;refine(eq1 _ _ _ _).mono ?_;rintro e w2 ⟨rfl,rfl⟩))
   all_goals(go_wp2;go_roundw)
   all_goals first
    |(have b2:=two_more wr (.cells #[.int .i64 x,.string y,.string z] 81) (.cells #[.int .i64 x,.string y,.string z] 81)
      exact⟨k+1,by omega,by go_num,(zu H1).below b2 (by omega),(zu H2).below b2 (by omega),next (zu HB) b2⟩)
    |(simp[intOf];omega)
  ·have HB:=zh hb
   clear h1 h2 hb
   go_wp2
   go_ret
   exact⟨rfl,zu HB⟩
end HelpF14
namespace MarkF14
open Fil14
def dg(k:Nat)(s:ByteArray):ByteArray:=if 0<k then dg (k/10) (strOfNums [48+(k:Int)%10]++s) else s
termination_by k
decreasing_by omega
def mt(k:Int):ByteArray:=⟨#[109]⟩++dg k.toNat ⟨#[]⟩
theorem dg_more{k:Nat}{s:ByteArray}(h:0<k):dg k s=dg (k/10) (strOfNums [48+(k:Int)%10]++s):=by rw[dg,if_pos h]
theorem dg_last{k:Nat}{s:ByteArray}(h:¬0<k):dg k s=s:=by rw[dg,if_neg h]
theorem markT(w:World)(k0:Int)(h0:0<k0)(h1:k0≤100000000):
  Calls Tryz.prog 123 #[.int .i64 k0] w fun e w'=>e= .returned (.string (mt k0))∧Below w.heap.size w w':=by
 obtain⟨r,hr⟩:∃r,Hid (mt k0=r):=⟨_,rfl⟩
 rw[zu hr]
 have S0:=zh (show(⟨#[109]⟩:ByteArray)++dg k0.toNat ⟨#[]⟩=r from zu hr)
 go_enter Tryz.func123,Tryz.ntmps123
 go_wp2
 go_loopw [0,3] (fun a o wr=>∃(k:Int) (s:ByteArray),a= .int .i64 k∧o= .string s∧0≤k∧k≤100000000∧Hid ((⟨#[109]⟩:ByteArray)++dg k.toNat s=r)∧Hid (s.size+k.toNat≤100000000)∧Hid (Below w.heap.size w wr)) (fun a _ _=>(intOf a).toNat)
 case atStart=>exact⟨k0,⟨#[]⟩,rfl,rfl,by omega,h1,S0,zh (by have:(⟨#[]⟩:ByteArray).size=0:=rfl;omega),zh (Below.refl _ _)⟩
 case round=>
  clear S0 h0 h1
  obtain⟨k,s,rfl,rfl,k1,k2,HD,HZ,HB⟩:=hrel
  have hz:=zu HZ
  by_cases t:0<k
  ·have ND:=zh (show(⟨#[109]⟩:ByteArray)++dg (k/10).toNat (strOfNums [48+k%10]++s)=r from by
    rw[←zu HD,dg_more (k:=k.toNat) (by omega),show((k.toNat:Nat):Int)=k by omega,show k.toNat/10=(k/10).toNat by omega])
   have CV:=run_convert_bytes_arg (P:=Tryz.prog) (wr.alloc (.cells #[.int .u8 (48+k%10)] 5)) 142 5 Tryz.underlying142 Tryz.underlying5 wr.heap.size 0 1 1 [48+k%10] rfl (fun i hi=>by
    have:i=0:=by omega
    subst this
    simp) 9 Tryz.underlying9
   have cz:=strOfNums_size [48+k%10]
   have E:=zh (show wrap64 (k.tdiv 10)=k/10 from by rw[Int.tdiv_eq_ediv_of_nonneg k1,wrap64];omega)
   have B1:=zh ((zu HB).alloc (zu HB).size (.cells #[.int .u8 (48+k%10)] 5))
   have KK:=zh (And.intro k1 k2)
   have cz1:(strOfNums [48+k%10]).size=1:=cz
   obtain⟨c,hc⟩:∃c,Hid (strOfNums [48+k%10]=c):=⟨_,rfl⟩
   rw[zu hc] at CV ND cz1
   have sz:¬(c.size+s.size>9223372036854775807):=by omega
   have CZ:=zh cz1
   clear cz cz1 hc HD
   go_wp2
   go_roundw
   case rel=>
    have kk:=zu KK
    exact⟨k/10,c++s,by first|rfl|(congr 1;exact zu E),rfl,by omega,by omega,ND,zh (by have:=zu CZ;rw[ByteArray.size_append];omega),B1⟩
   case measure=>
    have kk:=zu KK
    have e:=zu E
    simp[intOf]
    omega
  ·have e:k=0:=by omega
   subst e
   have D:=zu HD
   rw[dg_last (by simp)] at D
   have HD2:=zh D
   have sz:¬((⟨#[109]⟩:ByteArray).size+s.size>9223372036854775807):=by have:(⟨#[109]⟩:ByteArray).size=1:=rfl;omega
   clear D HD
   go_wp2
   go_ret
   exact⟨by rw[←zu HD2];rfl,zu HB⟩
end MarkF14
namespace MarkFS14
open Fil14 MarkF14
def marks(s:Int)(n:Nat):List TF:=(List.range n).map fun(i:Nat)=>(s+3*(i:Int),mt (s+3*(i:Int)+1),mt (s+3*(i:Int)+2))
theorem marks_len(s:Int)(n:Nat):(marks s n).length=n:=by simp[marks]
theorem marks_getD(s:Int)(n i:Nat)(h:i<n):elF (marks s n) i=(s+3*(i:Int),mt (s+3*(i:Int)+1),mt (s+3*(i:Int)+2)):=by simp[marks,List.getD,h]
def marked(s:Int)(ps:List TF)(n j:Nat):List TF:=(marks s n).take j++ps.drop j
theorem marked_zero(s:Int)(ps:List TF)(n:Nat):marked s ps n 0=ps:=by simp[marked]
theorem marked_all(s:Int)(ps:List TF)(n:Nat)(h:ps.length=n):marked s ps n n=marks s n:=by
 unfold marked
 rw[List.take_of_length_le (by rw[marks_len];exact Nat.le_refl _),List.drop_of_length_le (by omega),List.append_nil]
theorem marked_step(s:Int)(ps:List TF)(n j:Nat)(h:ps.length=n)(hj:j<n):(((marked s ps n j).modify j fun p=>(s+3*(j:Int),p.2)).modify j (fun p=>(p.1,mt (s+3*(j:Int)+1),p.2.2))).modify j (fun p=>(p.1,p.2.1,mt (s+3*(j:Int)+2)))=marked s ps n (j+1):=by
 unfold marked
 have l:=marks_len s n
 have g:=marks_getD s n j hj
 have l1:((marks s n).take j).length=j:=by simp;omega
 have l2:((marks s n).take (j+1)).length=j+1:=by simp;omega
 apply List.ext_getElem?
 intro i
 rw[List.getElem?_modify,List.getElem?_modify,List.getElem?_modify]
 by_cases e:j=i
 ·subst e
  rw[List.getElem?_append_right (by omega),List.getElem?_append_left (by omega),List.getElem?_take,if_pos (by omega),l1]
  have hg:(marks s n)[j]?=some (s+3*(j:Int),mt (s+3*(j:Int)+1),mt (s+3*(j:Int)+2)):=by
   rw[←g];simp[List.getD,l,hj]
  rw[hg]
  simp[List.getElem?_drop,h,hj]
 ·by_cases d:i<j
  ·rw[List.getElem?_append_left (by omega),List.getElem?_append_left (by omega),List.getElem?_take,List.getElem?_take,if_pos d,if_pos (by omega)]
   simp[e]
  ·rw[List.getElem?_append_right (by omega),List.getElem?_append_right (by omega),l1,l2]
   simp only[List.getElem?_drop]
   rw[show j+(i-j)=i by omega,show j+1+(i-(j+1))=i by omega]
   simp[e]
theorem markS(w:World)(base g n cap:Nat)(s:Int)(ps:List TF)(h20:n≤1048576)(s0:1≤s)(s1:s≤90000000)(hb0:base≤w.heap.size)(ho:OwnF 81 w base g n cap ps):
  Calls Tryz.prog 71 #[.slice (some ⟨g,0,none⟩) n cap,.int .i64 s] w fun e w'=>e= .returned (.int .i64 (s+3*(n:Int)))∧OwnF 81 w' base g n cap (marks s n)∧w.grownBy w' (some g):=by
 have hl:=ho.len
 have ho':OwnF 81 w base g n cap (marked s ps n 0):=by rw[marked_zero];exact ho
 clear ho
 go_enter Tryz.func71,Tryz.ntmps71
 go_wp2
 go_loopw [1,5] (fun m i wr=>∃(k:Nat),k≤n∧i= .int .i64 k∧m= .int .i64 (s+3*(k:Int))∧OwnF 81 wr base g n cap (marked s ps n k)∧w.grownBy wr (some g)) (fun _ i _=>n-(intOf i).toNat)
 case atStart=>exact⟨0,by omega,rfl,by go_num,ho',World.grownBy.refl _ _⟩
 case round=>
  clear ho'
  obtain⟨k,hk,rfl,rfl,hown,hg⟩:=hrel
  by_cases t:k<n
  ·obtain⟨o1,q1⟩:=hown.set0 k (s+3*(k:Int))
   obtain⟨hd0,hd1,hd2⟩:=hown.at k (by rw[OwnF.len hown];exact t)
   have hf0:=hown.free (k*3)
   have HO1:=zh o1
   have HG1:=zh (grown_trans hg q1)
   have ms:=marked_step s ps n k hl t
   rw[show s+3*(k:Int)+2=s+3*(k:Int)+1+1 by omega] at ms
   have MS:=zh ms
   clear ms
   clear hown hg o1 q1 hd1 hd2
   generalize (elF (marked s ps n k) k).1=z0 at hd0
   generalize marked s ps n k=mk at *
   have r1:IntKind.i64.wrap (s+3*(k:Int)+1)=s+3*(k:Int)+1:=by rw[IntKind.wrap_i64];omega
   have r2:IntKind.i64.wrap (s+3*(k:Int)+1+1)=s+3*(k:Int)+1+1:=by rw[IntKind.wrap_i64];omega
   have r3:IntKind.i64.wrap (s+3*(k:Int)+1+1+1)=s+3*(k:Int)+1+1+1:=by rw[IntKind.wrap_i64];omega
   go_wp2_with fail
   refine(markT _ (s+3*(k:Int)+1) (by omega) (by omega)).mono ?_
   rintro e u1 ⟨rfl,bb⟩
   have a1:=(zu HO1).below bb (zu HO1).lt.2
   have G2:=zh (grown_trans (zu HG1) ⟨bb.os,bb.tape,bb.output,bb.size,fun i hi _=>bb.block i hi⟩)
   obtain⟨o2,q2⟩:=a1.set1 k (mt (s+3*(k:Int)+1))
   obtain⟨_,hd1,_⟩:=a1.at k (by rw[OwnF.len a1];exact t)
   have hf1:=a1.free (k*3+1)
   have HO2:=zh o2
   have HG2:=zh (grown_trans (zu G2) q2)
   clear bb a1 o2 q2 G2 HO1 HG1 hd0 hf0
   generalize (elF (mk.modify k fun p=>(s+3*(k:Int),p.2)) k).2.1=z1 at hd1
   generalize mk.modify k (fun p=>(s+3*(k:Int),p.2))=mk1 at *
   go_wp2_with fail
   refine(markT _ (s+3*(k:Int)+1+1) (by omega) (by omega)).mono ?_
   rintro e u2 ⟨rfl,bb⟩
   have a2:=(zu HO2).below bb (zu HO2).lt.2
   have G3:=zh (grown_trans (zu HG2) ⟨bb.os,bb.tape,bb.output,bb.size,fun i hi _=>bb.block i hi⟩)
   obtain⟨o3,q3⟩:=a2.set2 k (mt (s+3*(k:Int)+1+1))
   obtain⟨_,_,hd2⟩:=a2.at k (by rw[OwnF.len a2];exact t)
   have hf2:=a2.free (k*3+2)
   have HO3:=zh o3
   have HG3:=zh (grown_trans (zu G3) q3)
   clear bb a2 o3 q3 G3 HO2 HG2 hd1 hf1
   generalize (elF (mk1.modify k fun p=>(p.1,mt (s+3*(k:Int)+1),p.2.2)) k).2.2=z2 at hd2
   go_wp2
   go_roundw
   case rel=>exact⟨k+1,by omega,by go_num,by go_num,by have h:=zu HO3;rw[zu MS] at h;exact h,zu HG3⟩
   case measure=>simp[intOf];omega
  ·obtain rfl:k=n:=by omega
   rw[marked_all s ps k hl] at hown
   have HO:=zh hown
   have HG:=zh hg
   clear hown hg
   go_wp2
   go_ret
   exact⟨rfl,zu HO,zu HG⟩
theorem heldS(w:World)(g n cap:Nat)(s:Int)(h20:n≤1048576)(s0:1≤s)(s1:s≤90000000)(lg:g<w.heap.size)(h:AtF w g (marks s n)):
  Calls Tryz.prog 77 #[.slice (some ⟨g,0,none⟩) n cap,.int .i64 s] w fun e w'=>e= .returned (.int .i64 (s+3*(n:Int)))∧Below w.heap.size w w':=by
 have H:=zh h
 clear h
 go_enter Tryz.func77,Tryz.ntmps77
 go_wp2
 go_loopw [1,5] (fun m i wr=>∃(k:Nat),k≤n∧i= .int .i64 k∧m= .int .i64 (s+3*(k:Int))∧Hid (Below w.heap.size w wr)) (fun _ i _=>n-(intOf i).toNat)
 case atStart=>exact⟨0,by omega,rfl,by go_num,zh (Below.refl _ _)⟩
 case round=>
  obtain⟨k,hk,rfl,rfl,HB⟩:=hrel
  by_cases t:k<n
  ·obtain⟨e1,e2,e3⟩:=((zu H).below (zu HB) lg) k (by rw[marks_len];exact t)
   rw[marks_getD s n k t] at e1 e2 e3
   have K1:wr.cell? ⟨g,k*3+1,none⟩=some (.string (mt (s+3*(k:Int)+1))):=e2
   replace e3:wr.cell? ⟨g,k*3+2,none⟩=some (.string (mt (s+3*(k:Int)+1+1))):=by rw[e3,show s+3*(k:Int)+1+1=s+3*(k:Int)+2 by omega]
   have r1:IntKind.i64.wrap (s+3*(k:Int)+1)=s+3*(k:Int)+1:=by rw[IntKind.wrap_i64];omega
   have r2:IntKind.i64.wrap (s+3*(k:Int)+1+1)=s+3*(k:Int)+1+1:=by rw[IntKind.wrap_i64];omega
   have r3:IntKind.i64.wrap (s+3*(k:Int)+1+1+1)=s+3*(k:Int)+1+1+1:=by rw[IntKind.wrap_i64];omega
   clear e2
   go_wp2_with fail
   refine wp_region_held_drew (S:=(fun w'=>w'.cell? ⟨g,k*3+1,none⟩=some (.string (mt (s+3*(k:Int)+1))))) (by kernel_rfl) K1 (fun hHeld=>?_)
   refine zT 0 21 (.slice (some ⟨g,0,none⟩) n cap) rfl hHeld ?_
   refine zT 1 22 (.int .i64 k) rfl hHeld ?_
   refine zT 2 23 (.pointer (some ⟨g,k*3,none⟩)) rfl hHeld ?_
   refine zT 3 24 (.pointer (some ⟨g,k*3+1,none⟩)) rfl hHeld ?_
   refine zT 4 25 (.string (mt (s+3*(k:Int)+1))) rfl hHeld ?_
   refine zT 5 26 (.int .i64 (s+3*(k:Int)+1)) rfl hHeld ?_
   try simp only[Act.put,zA,zB,zC]
   refine zR 6 rfl (fun K hK=>?_)
   go_simp
   go_wp2_with fail
   refine(markT _ (s+3*(k:Int)+1) (by omega) (by omega)).mono ?_
   rintro e u1 ⟨rfl,bb⟩
   have bu1:=zh (show Below wr.heap.size wr u1 from⟨bb.os,bb.tape,bb.output,bb.size,bb.block⟩)
   have Ku1:u1.cell? ⟨g,k*3+1,none⟩=some (.string (mt (s+3*(k:Int)+1))):=((zu bu1).cell (p:=⟨g,k*3+1,none⟩) (Nat.lt_of_lt_of_le lg (zu HB).size)).trans K1
   clear bb
   go_wp2_with fail
   refine hK.out _ _ Ku1 (fun hHeld=>?_)
   clear hK K
   refine zT 7 28 (.bool false) rfl hHeld ?_
   try simp only[Act.put,zA,zB,zC]
   refine wpAnyH_done (by kernel_rfl) ?_ _
   have B1:=zh ((zu HB).trans ((zu bu1).mono (zu HB).size))
   have K2:u1.cell? ⟨g,k*3+2,none⟩=some (.string (mt (s+3*(k:Int)+1+1))):=((zu bu1).cell (p:=⟨g,k*3+2,none⟩) (Nat.lt_of_lt_of_le lg (zu HB).size)).trans e3
   clear K1 Ku1
   go_wp2_with fail
   refine wp_region_held_drew (S:=(fun w'=>w'.cell? ⟨g,k*3+2,none⟩=some (.string (mt (s+3*(k:Int)+1+1))))) (by kernel_rfl) K2 (fun hHeld=>?_)
   refine zT 0 31 (.slice (some ⟨g,0,none⟩) n cap) rfl hHeld ?_
   refine zT 1 32 (.int .i64 k) rfl hHeld ?_
   refine zT 2 33 (.pointer (some ⟨g,k*3,none⟩)) rfl hHeld ?_
   refine zT 3 34 (.pointer (some ⟨g,k*3+2,none⟩)) rfl hHeld ?_
   refine zT 4 35 (.string (mt (s+3*(k:Int)+1+1))) rfl hHeld ?_
   refine zT 5 36 (.int .i64 (s+3*(k:Int)+1+1)) rfl hHeld ?_
   try simp only[Act.put,zA,zB,zC]
   refine zR 6 rfl (fun K hK=>?_)
   go_simp
   go_wp2_with fail
   refine(markT _ (s+3*(k:Int)+1+1) (by omega) (by omega)).mono ?_
   rintro e u2 ⟨rfl,bb⟩
   have bu2:=zh (show Below u1.heap.size u1 u2 from⟨bb.os,bb.tape,bb.output,bb.size,bb.block⟩)
   have Ku2:u2.cell? ⟨g,k*3+2,none⟩=some (.string (mt (s+3*(k:Int)+1+1))):=((zu bu2).cell (p:=⟨g,k*3+2,none⟩) (Nat.lt_of_lt_of_le lg (zu B1).size)).trans K2
   clear bb
   go_wp2_with fail
   refine hK.out _ _ Ku2 (fun hHeld=>?_)
   clear hK K
   refine zT 7 38 (.bool false) rfl hHeld ?_
   try simp only[Act.put,zA,zB,zC]
   refine wpAnyH_done (by kernel_rfl) ?_ _
   have B2:=zh ((zu B1).trans ((zu bu2).mono (zu B1).size))
   clear K2 Ku2 bu2
   go_wp2
   go_roundw
   case rel=>exact⟨k+1,by omega,by go_num,by go_num,B2⟩
   case measure=>simp[intOf];omega
  ·obtain rfl:k=n:=by omega
   go_wp2
   go_ret
   exact⟨rfl,zu HB⟩
end MarkFS14
namespace DkH14
open Fil14 OpensF14 DiskH14
open MarkFS14 (marks marks_len)
structure Dx where
 room:Int
 a:Option Addr
 c:Nat
 ps:List TF
structure RdD(w:World)(x:Dx):Prop where
 e:x.ps.length≠0→∃g,x.a=some ⟨g,0,none⟩
 r:∀g,x.a=some ⟨g,0,none⟩→g<w.heap.size∧AtF w g x.ps
 n:x.ps.length≤1048576
theorem RdD.below{w w':World}{x:Dx}(h:RdD w x)(k:Below w.heap.size w w'):RdD w' x:=⟨h.e,fun g e=>⟨Nat.lt_of_lt_of_le (h.r g e).1 k.size,(h.r g e).2.below k (h.r g e).1⟩,h.n⟩
def OwD(w:World)(base:Nat)(x:Dx):Prop:=w.ownsRow base 81 3 (.slice x.a x.ps.length x.c) x.ps.length (flatF x.ps)
def OmD(w:World)(base:Nat)(x:Dx):Prop:=w.ownsRow base 81 3 (.slice x.a x.ps.length x.c) x.ps.length (flatF (marks 1 x.ps.length))
theorem row_step{W W':World}{base:Nat}{e:TypeId}{m:Nat}{v:Value}{n:Nat}{vs:List Value}(h:W.ownsRow base e m v n vs)(k:Below W.heap.size W W'):W'.ownsRow base e m v n vs:=
 World.ownsRow.kept h (row:=none) ⟨k.os,k.tape,k.output,k.size,fun i hi _=>k.block i hi⟩ (by
  cases hb:v.ownBlock with
  |none=>exact .inl rfl
  |some g=>exact .inr (by simp))
theorem addr_of{W:World}{base:Nat}{e:TypeId}{m n c:Nat}{a:Option Addr}{vs:List Value}(h:W.ownsRow base e m (.slice a n c) n vs):(n≠0→∃g,a=some ⟨g,0,none⟩)∧∀g,a=some ⟨g,0,none⟩→g<W.heap.size:=by
 refine⟨fun hn=>?_,fun g e=>(World.ownsRow.lt h g (by rw[e];rfl)).2⟩
 rcases h.2 with⟨h1,_⟩|⟨g,c',cur,h1,_⟩
 ·have:n=0:=by simp at h1;omega
  exact absurd this hn
 ·have:a=some ⟨g,0,none⟩∧c=c':=by simpa using h1
  exact⟨g,this.1⟩
theorem OwD.rd{w:World}{base:Nat}{x:Dx}(h:OwD w base x)(hn:x.ps.length≤1048576):RdD w x:=by
 refine⟨(addr_of h).1,fun g e=>⟨(addr_of h).2 g e,?_⟩,hn⟩
 have o:=h
 unfold OwD at o
 rw[e] at o
 exact OwnF.at o
theorem OwD.step{w w':World}{base:Nat}{x:Dx}(h:OwD w base x)(k:Below w.heap.size w w'):OwD w' base x:=row_step h k
theorem OmD.step{w w':World}{base:Nat}{x:Dx}(h:OmD w base x)(k:Below w.heap.size w w'):OmD w' base x:=row_step h k
def Bc(w:World)(base g:Nat)(v0 v1:Value):Prop:=w.ownsRow base 37 2 (.slice (some ⟨g,0,none⟩) 1 1) 1 [v0,v1]
theorem Bc.made{w:World}{base g:Nat}(v0 v1:Value)(hb:base≤w.heap.size)(hg:g=w.heap.size):Bc (w.alloc (.cells #[v0,v1] 37)) base g v0 v1:=by
 subst hg
 exact⟨rfl,.inr ⟨w.heap.size,1,#[v0,v1],rfl,hb,heap_alloc_new w _,Nat.le_refl _,by unfold maxLen;omega,rfl,rfl⟩⟩
section
variable {w w':World} {base g:Nat} {v0 v1:Value}
theorem Bc.lt(h:Bc w base g v0 v1):base≤g∧g<w.heap.size:=World.ownsRow.lt h g rfl
theorem Bc.free(h:Bc w base g v0 v1)(i:Nat):w.frozen? ⟨g,i,none⟩=false:=World.ownsRow.frozenAt h i
theorem Bc.c0(h:Bc w base g v0 v1):w.cell? ⟨g,0,none⟩=some v0:=(World.ownsRow.cellAt h 0 (by omega)).trans rfl
theorem Bc.c1(h:Bc w base g v0 v1):w.cell? ⟨g,1,none⟩=some v1:=(World.ownsRow.cellAt h 1 (by omega)).trans rfl
theorem Bc.set0(h:Bc w base g v0 v1)(u:Value):Bc (w.setCell ⟨g,0,none⟩ u) base g u v1∧w.grownBy (w.setCell ⟨g,0,none⟩ u) (some g):=World.ownsRow.stored h 0 u
theorem Bc.kept{row:Option Nat}(h:Bc w base g v0 v1)(k:w.grownBy w' row)(hne:some g≠row):Bc w' base g v0 v1:=World.ownsRow.kept h k (Or.inr hne)
theorem Bc.below{B:Nat}(h:Bc w base g v0 v1)(k:Below B w w')(hg:g<B):Bc w' base g v0 v1:=by
 refine⟨h.1,?_⟩
 rcases h.2 with⟨h1,_⟩|⟨g',c,cur,h1,h2,h3,h4⟩
 ·simp at h1
 ·have e:g=g':=by simp at h1;exact h1.1
  subst e
  exact .inr ⟨g,c,cur,h1,h2,(k.block g hg).trans h3,h4⟩
end
theorem row_store{w:World}{base g n cap:Nat}{xs:List TF}(h:OwnF 81 w base g n cap xs){a:Addr}(ha:a.block<base)(u:Value):OwnF 81 (w.setCell a u) base g n cap xs:=ownsRow_setCell_below h ha u
theorem toD0(w:World)(k:Int)(a:Option Addr)(len cap:Nat)(xs:List TF)(hl:xs.length=len)(h20:len≤1048576)(hr:ReadsF w a xs):
  Calls Tryz.prog 17 #[.agg #[.int .i64 k,.slice a len cap]] w fun e w'=>∃g,e= .returned (.agg #[.int .i64 k,.slice (some ⟨g,0,none⟩) len len])∧OwnF 81 w' w.heap.size g len len xs∧Below w.heap.size w w':=by
 have F:∀W1,W1=w.alloc (.cells #[.int .i64 k,.slice a len cap] 24)→∀W2,W2=W1.alloc (.cells #[.int .i64 0,.slice none 0 0] 37)→∀W3,W3=W2.alloc (.cells #[.int .i64 k,.slice none 0 0] 37)→
   Below w.heap.size w W3∧Bc W3 w.heap.size (w.heap.size+1) (.int .i64 0) (.slice none 0 0)∧Bc W3 w.heap.size (w.heap.size+1+1) (.int .i64 k) (.slice none 0 0)∧W3.heap.size=w.heap.size+3:=by
  intro W1 h1 W2 h2 W3 h3
  have s1:W1.heap.size=w.heap.size+1:=by rw[h1];simp
  have s2:W2.heap.size=w.heap.size+1+1:=by rw[h2];simp[s1]
  have s3:W3.heap.size=w.heap.size+3:=by rw[h3];simp[s2]
  have b1:Below w.heap.size w W1:=by rw[h1];exact one_more _ _
  have b2:Below W1.heap.size W1 W2:=by rw[h2];exact one_more _ _
  have b3:Below W2.heap.size W2 W3:=by rw[h3];exact one_more _ _
  have R1:Bc W2 w.heap.size (w.heap.size+1) (.int .i64 0) (.slice none 0 0):=by rw[h2];exact Bc.made _ _ (by omega) s1.symm
  have O1:Bc W3 w.heap.size (w.heap.size+1+1) (.int .i64 k) (.slice none 0 0):=by rw[h3];exact Bc.made _ _ (by omega) s2.symm
  exact⟨(b1.trans (b2.mono (by omega))).trans (b3.mono (by omega)),R1.below b3 (by omega),O1,s3⟩
 have G:=zh (F _ rfl _ rfl _ rfl)
 have HR:=zh hr
 clear F hr
 go_enter Tryz.func17,Tryz.ntmps17
 go_wp2_with fail
 refine(HelpF14.toS _ a len cap xs hl h20 ((zu HR).below (zu G).1)).mono ?_
 rintro e w1 ⟨rfl,o,bb⟩
 obtain⟨BW,R0,O0,s3⟩:=zu G
 rw[s3] at o
 have R1:=R0.below bb (by omega)
 have O1:=O0.below bb (by omega)
 have B1:=zh (BW.trans (bb.mono BW.size))
 have OX:=zh o
 have z1:=bb.size
 have c0:=O1.c0
 have c1:=O1.c1
 have d0:=O1.free 0
 have d1:=O1.free 1
 have r0:=R1.c0
 have r1:=R1.c1
 have f0:=R1.free 0
 have f1:=R1.free 1
 clear bb o BW R0 O0 G HR R1 O1
 simp only[s3] at *
 go_wp2
 refine bodyPost_ret (v:= .agg #[.int .i64 k,.slice (some ⟨w.heap.size+3,0,none⟩) len len]) (by simp[results,Tryz.results17,go_sem,r0,r1]) rfl ⟨w.heap.size+3,rfl,?_,?_⟩
 ·exact(row_store (row_store (row_store (zu OX) (a:=⟨w.heap.size+1+1,1,none⟩) (by simp) _) (a:=⟨w.heap.size+1,0,none⟩) (by simp) _) (a:=⟨w.heap.size+1,1,none⟩) (by simp) _).rebase (by omega)
 ·exact(((zu B1).setCell (p:=⟨w.heap.size+1+1,1,none⟩) (by simp;omega) _).setCell (p:=⟨w.heap.size+1,0,none⟩) (by simp) _).setCell (p:=⟨w.heap.size+1,1,none⟩) (by simp) _
theorem toD(w:World)(room:Int)(a:Option Addr)(len cap:Nat)(ps:List TF)(hl:ps.length=len)(h20:len≤1048576)(hr:ReadsF w a ps):
  Calls Tryz.prog 17 #[.agg #[.int .i64 room,.slice a len cap]] w fun e w'=>∃x:Dx,x.room=room∧x.ps=ps∧e= .returned (.agg #[.int .i64 x.room,.slice x.a x.ps.length x.c])∧OwD w' w.heap.size x∧Below w.heap.size w w':=
 (toD0 w room a len cap ps hl h20 hr).mono fun e w' ⟨g,h1,h2,h3⟩=>⟨⟨room,some ⟨g,0,none⟩,len,ps⟩,rfl,rfl,by subst hl;exact h1,by subst hl;exact h2,h3⟩
theorem eqN(w:World)(a1 a2:Option Addr)(c1 c2:Nat):Calls Tryz.prog 65 #[.slice a1 0 c1,.slice a2 0 c2] w fun e w'=>e= .returned (.bool true)∧w'=w:=by
 go_enter Tryz.func65,Tryz.ntmps65
 go_wp2
 go_loopw [5] (fun j wr=>j= .int .i64 0∧wr=w) (fun _ _=>0)
 case atStart=>exact⟨rfl,rfl⟩
 case round=>
  obtain⟨rfl,rfl⟩:=hrel
  go_wp2
  go_ret
  exact⟨rfl,rfl⟩
theorem eqV(w:World)(x y:Dx)(hp:y.ps=x.ps)(hx:RdD w x)(hy:RdD w y):Calls Tryz.prog 65 #[.slice x.a x.ps.length x.c,.slice y.a x.ps.length y.c] w fun e w'=>e= .returned (.bool true)∧Below w.heap.size w w':=by
 by_cases z:x.ps.length=0
 ·rw[z]
  exact(eqN w _ _ _ _).mono fun e w' ⟨h1,h2⟩=>⟨h1,by rw[h2];exact Below.refl _ _⟩
 ·obtain⟨g1,e1⟩:=hx.e z
  obtain⟨g2,e2⟩:=hy.e (by rw[hp];exact z)
  have a1:=hx.r g1 e1
  have a2:=hy.r g2 e2
  rw[hp] at a2
  rw[e1,e2]
  exact HelpF14.eqS w g1 g2 _ _ _ x.ps rfl hx.n a1.1 a2.1 a1.2 a2.2
theorem eqD(w:World)(x y:Dx)(hr:y.room=x.room)(hp:y.ps=x.ps)(hx:RdD w x)(hy:RdD w y):
  Calls Tryz.prog 23 #[.agg #[.int .i64 x.room,.slice x.a x.ps.length x.c],.agg #[.int .i64 y.room,.slice y.a y.ps.length y.c]] w fun e w'=>e= .returned (.bool true)∧Below w.heap.size w w':=by
 have b1:=one_more w (.cells #[.int .i64 x.room,.slice x.a x.ps.length x.c] 37)
 have b2:=one_more (w.alloc (.cells #[.int .i64 x.room,.slice x.a x.ps.length x.c] 37)) (.cells #[.int .i64 y.room,.slice y.a y.ps.length y.c] 37)
 have B:=zh (b1.trans (b2.mono b1.size))
 have E:=zh (eqV _ x y hp (hx.below (zu B)) (hy.below (zu B)))
 rw[hr,hp] at B⊢
 rw[hr,hp] at E
 have q:(x.room !=x.room)=false:=by simp
 clear hx hy b1 b2 hr hp
 go_enter Tryz.func23,Tryz.ntmps23
 go_wp2_with fail
 refine(zu E).mono ?_
 rintro e u ⟨rfl,bb⟩
 have B2:=zh ((zu B).trans (bb.mono (zu B).size))
 clear bb
 go_wp2
 go_ret
 exact⟨rfl,zu B2⟩
theorem markN(w:World)(a:Option Addr)(c:Nat)(s:Int):Calls Tryz.prog 71 #[.slice a 0 c,.int .i64 s] w fun e w'=>e= .returned (.int .i64 s)∧w'=w:=by
 go_enter Tryz.func71,Tryz.ntmps71
 go_wp2
 go_loopw [1,5] (fun m j wr=>m= .int .i64 s∧j= .int .i64 0∧wr=w) (fun _ _ _=>0)
 case atStart=>exact⟨rfl,rfl,rfl⟩
 case round=>
  obtain⟨rfl,rfl,rfl⟩:=hrel
  go_wp2
  go_ret
  exact⟨rfl,rfl⟩
theorem heldN(w:World)(a:Option Addr)(c:Nat)(s:Int):Calls Tryz.prog 77 #[.slice a 0 c,.int .i64 s] w fun e w'=>e= .returned (.int .i64 s)∧w'=w:=by
 go_enter Tryz.func77,Tryz.ntmps77
 go_wp2
 go_loopw [1,5] (fun m j wr=>m= .int .i64 s∧j= .int .i64 0∧wr=w) (fun _ _ _=>0)
 case atStart=>exact⟨rfl,rfl,rfl⟩
 case round=>
  obtain⟨rfl,rfl,rfl⟩:=hrel
  go_wp2
  go_ret
  exact⟨rfl,rfl⟩
theorem markV(w:World)(base:Nat)(x:Dx)(hn:x.ps.length≤1048576)(hb:base≤w.heap.size)(ho:OwD w base x):
  Calls Tryz.prog 71 #[.slice x.a x.ps.length x.c,.int .i64 1] w fun e w'=>e= .returned (.int .i64 (1+3*(x.ps.length:Int)))∧OmD w' base x∧w.grownBy w' (Value.slice x.a x.ps.length x.c).ownBlock:=by
 unfold OwD at ho
 unfold OmD
 generalize hl:x.ps.length=n at *
 generalize x.a=a at *
 generalize x.c=c at *
 have ho':=ho
 rcases ho.2 with⟨h1,h2⟩|⟨g,c',cur,h1,_⟩
 ·obtain⟨rfl,_,rfl⟩:a=none∧n=0∧c=0:=by simpa using h1
  subst h2
  exact(markN w _ _ 1).mono fun e w' ⟨q1,q2⟩=>⟨by rw[q1];simp,by rw[q2];exact World.ownsRow_nil w base _ _,by rw[q2];exact World.grownBy.refl _ _⟩
 ·obtain⟨rfl,rfl⟩:a=some ⟨g,0,none⟩∧c=c':=by simpa using h1
  exact MarkFS14.markS w base g n c 1 x.ps hn (by omega) (by omega) hb ho'
theorem heldV(w:World)(base:Nat)(x:Dx)(hn:x.ps.length≤1048576)(ho:OmD w base x):
  Calls Tryz.prog 77 #[.slice x.a x.ps.length x.c,.int .i64 1] w fun e w'=>e= .returned (.int .i64 (1+3*(x.ps.length:Int)))∧Below w.heap.size w w':=by
 unfold OmD at ho
 generalize hl:x.ps.length=n at *
 generalize x.a=a at *
 generalize x.c=c at *
 have ho':=ho
 rcases ho.2 with⟨h1,h2⟩|⟨g,c',cur,h1,_⟩
 ·obtain⟨rfl,_,rfl⟩:a=none∧n=0∧c=0:=by simpa using h1
  subst h2
  exact(heldN w _ _ 1).mono fun e w' ⟨q1,q2⟩=>⟨by rw[q1];simp,by rw[q2];exact Below.refl _ _⟩
 ·obtain⟨rfl,rfl⟩:a=some ⟨g,0,none⟩∧c=c':=by simpa using h1
  exact MarkFS14.heldS w g n c 1 hn (by omega) (by omega) (OwnF.lt ho').2 (OwnF.at ho')
structure TurnD(x:Dx)(w w':World):Prop where
 os:w'.os=w.os
 tape:w'.tape=w.tape
 output:w'.output=w.output
 size:w.heap.size≤w'.heap.size
 block:∀k,k<w.heap.size→some k≠(Value.slice x.a x.ps.length x.c).ownBlock→w'.heap[k]?=w.heap[k]?
theorem markD(w:World)(base:Nat)(x:Dx)(hn:x.ps.length≤1048576)(hb:base≤w.heap.size)(ho:OwD w base x):
  Calls Tryz.prog 25 #[.agg #[.int .i64 x.room,.slice x.a x.ps.length x.c],.int .i64 1] w fun e w'=>e= .returned (.int .i64 (1+3*(x.ps.length:Int)))∧OmD w' base x∧TurnD x w w':=by
 have b1:=one_more w (.cells #[.int .i64 x.room,.slice x.a x.ps.length x.c] 37)
 have M:=zh (markV _ base x hn (Nat.le_trans hb b1.size) (ho.step b1))
 have B1:=zh b1
 clear ho b1
 go_enter Tryz.func25,Tryz.ntmps25
 go_wp2_with fail
 refine(zu M).mono ?_
 rintro e u ⟨rfl,o,gr⟩
 have O:=zh o
 have T:=zh (show TurnD x w u from⟨gr.os.trans (zu B1).os,gr.tape.trans (zu B1).tape,gr.output.trans (zu B1).output,Nat.le_trans (zu B1).size gr.size,fun k hk ne=>(gr.block k (Nat.lt_of_lt_of_le hk (zu B1).size) ne).trans ((zu B1).block k hk)⟩)
 clear o gr M
 go_wp2
 go_ret
 exact⟨rfl,zu O,zu T⟩
theorem heldD(w:World)(base:Nat)(x:Dx)(hn:x.ps.length≤1048576)(ho:OmD w base x):
  Calls Tryz.prog 27 #[.agg #[.int .i64 x.room,.slice x.a x.ps.length x.c],.int .i64 1] w fun e w'=>e= .returned (.int .i64 (1+3*(x.ps.length:Int)))∧Below w.heap.size w w':=by
 have b1:=one_more w (.cells #[.int .i64 x.room,.slice x.a x.ps.length x.c] 37)
 have M:=zh (heldV _ base x hn (ho.step b1))
 have B1:=zh b1
 have q:¬(1+3*(x.ps.length:Int)<0):=by omega
 clear ho b1
 go_enter Tryz.func27,Tryz.ntmps27
 go_wp2_with fail
 refine(zu M).mono ?_
 rintro e u ⟨rfl,bb⟩
 have B2:=zh ((zu B1).trans (bb.mono (zu B1).size))
 clear bb M
 go_wp2
 go_ret
 exact⟨rfl,zu B2⟩
end DkH14
namespace SDk14
open Fil14 OpensF14 DiskH14 DkH14
def findF(ps:List TF)(nm:Int):Int:=match ps.findIdx? (fun p=>p.1==nm) with|some i=>i|none=> -1
theorem sumZ_le(ps:List TF)(k:Nat):sumZ (ps.take k)≤sumZ ps:=by
 have:=sumZ_append (ps.take k) (ps.drop k)
 rw[List.take_append_drop] at this
 omega
theorem cells_of{w:World}{x:Dx}(h:RdD w x){k:Nat}(hk:k<x.ps.length):∃g,x.a=some ⟨g,0,none⟩∧g<w.heap.size∧HoldsF w g (k*3) (elF x.ps k):=by
 obtain⟨g,e⟩:=h.e (by omega)
 exact⟨g,e,(h.r g e).1,(h.r g e).2 k hk⟩
structure Wd(w wr:World)(x:Dx):Prop where
 c0:wr.cell? ⟨w.heap.size,0,none⟩=some (.int .i64 x.room)
 c1:wr.cell? ⟨w.heap.size,1,none⟩=some (.slice x.a x.ps.length x.c)
 lt:w.heap.size<wr.heap.size
 b:Below w.heap.size w wr
 r:RdD wr x
theorem Wd.made{w:World}{x:Dx}(hr:RdD w x)(t:TypeId):Wd w (w.alloc (.cells #[.int .i64 x.room,.slice x.a x.ps.length x.c] t)) x:=
 ⟨by simp[go_sem],by simp[go_sem],by simp,one_more _ _,hr.below (one_more _ _)⟩
theorem Wd.step{w wr wz:World}{x:Dx}(h:Wd w wr x)(k:Below wr.heap.size wr wz):Wd w wz x:=
 ⟨(k.cell (p:=⟨w.heap.size,0,none⟩) h.lt).trans h.c0,(k.cell (p:=⟨w.heap.size,1,none⟩) h.lt).trans h.c1,Nat.lt_of_lt_of_le h.lt k.size,h.b.trans (k.mono h.b.size),h.r.below k⟩
theorem Wd.drew{w wr:World}{x:Dx}(h:Wd w wr x):Wd w wr.drew x:=h.step (Below.refl _ _).drew
theorem sSize(w:World)(x:Dx)(hr:RdD w x)(hz:sumZ x.ps≤1048576):
  Calls Tryz.prog 84 #[.agg #[.int .i64 x.room,.slice x.a x.ps.length x.c]] w fun e w'=>e= .returned (.int .i64 (sumZ x.ps))∧Below w.heap.size w w':=by
 have W0:=zh (Wd.made hr 37)
 have h20:=hr.n
 clear hr
 go_enter Tryz.func84,Tryz.ntmps84
 go_wp2
 go_loopw [3,4] (fun n i wr=>∃(k:Nat) (y:Int),k≤x.ps.length∧i= .int .i64 k∧n= .int .i64 y∧0≤y∧y≤1048576∧Hid (y=sumZ (x.ps.take k))∧Hid (Wd w wr x)) (fun _ i _=>x.ps.length-(intOf i).toNat)
 case atStart=>exact⟨0,0,by omega,rfl,rfl,by omega,by omega,zh (by simp[sumZ]),W0⟩
 case round=>
  clear W0
  obtain⟨k,y,hk,rfl,rfl,y0,y1,HY,HW⟩:=hrel
  have c1:=(zu HW).c1
  have lt:=(zu HW).lt
  by_cases t:k<x.ps.length
  ·have kt:(k:Int)<x.ps.length:=by omega
   have NX:=sumZ_next t
   have LE:=sumZ_le x.ps (k+1)
   have YE:=zu HY
   obtain⟨g,ea,lg,d0,d1,d2⟩:=cells_of (zu HW).r t
   generalize (elF x.ps k).1=z0 at *
   generalize (elF x.ps k).2.1=z1 at *
   generalize (elF x.ps k).2.2=z2 at *
   have b1:(z1.size:Int)≤1048576:=by omega
   have b2:y+z1.size+z2.size≤1048576:=by omega
   have a1:wrap64 (y+z1.size)=y+z1.size:=by rw[wrap64];omega
   have a2:wrap64 (y+z1.size+z2.size)=y+z1.size+z2.size:=by rw[wrap64];omega
   have NY:=zh (show y+z1.size+z2.size=sumZ (x.ps.take (k+1)) by omega)
   clear NX LE YE
   rw[ea] at c1
   go_wp2_with fail
   go_region
   go_wp2
   go_roundw
   case rel=>exact⟨k+1,y+z1.size+z2.size,by omega,by go_num,rfl,by omega,by omega,NY,(zu HW).drew⟩
   case measure=>simp[intOf];omega
  ·have e:k=x.ps.length:=by omega
   have E:=zh (show y=sumZ x.ps by have:=zu HY;rw[e,List.take_length] at this;exact this)
   have kt:¬(k:Int)<x.ps.length:=by omega
   clear HY
   subst e
   go_wp2
   go_ret
   exact⟨congrArg (fun z=>Ending.returned (.int .i64 z)) (zu E),(zu HW).b⟩
theorem elF_get{ps:List TF}{k:Nat}(hk:k<ps.length):elF ps k=ps[k]:=by simp[List.getD,hk]
theorem findF_at{ps:List TF}{nm:Int}{k:Nat}(hk:k<ps.length)(h:∀j,j<k→(elF ps j).1≠nm)(e:(elF ps k).1=nm):findF ps nm=k:=by
 have:ps.findIdx? (fun p=>p.1==nm)=some k:=by
  rw[List.findIdx?_eq_some_iff_getElem]
  refine⟨hk,by rw[elF_get hk] at e;simp[e],fun j hj=>?_⟩
  have:=h j hj
  rw[elF_get (by omega)] at this
  simp[this]
 unfold findF
 rw[this]
theorem findF_no{ps:List TF}{nm:Int}(h:∀j,j<ps.length→(elF ps j).1≠nm):findF ps nm= -1:=by
 have:ps.findIdx? (fun p=>p.1==nm)=none:=by
  rw[List.findIdx?_eq_none_iff]
  intro q hq
  obtain⟨i,hi,rfl⟩:=List.getElem_of_mem hq
  have:=h i hi
  rw[elF_get hi] at this
  simp[this]
 unfold findF
 rw[this]
theorem findF_in{ps:List TF}{nm:Int}(h:0≤findF ps nm):∃k:Nat,findF ps nm=k∧k<ps.length∧(elF ps k).1=nm:=by
 unfold findF at *
 cases q:ps.findIdx? (fun p=>p.1==nm) with
 |none=>rw[q] at h;simp at h
 |some i=>
  rw[List.findIdx?_eq_some_iff_getElem] at q
  obtain⟨hi,e,_⟩:=q
  exact⟨i,rfl,hi,by rw[elF_get hi];simpa using e⟩
theorem sFind(w:World)(x:Dx)(nm:Int)(hr:RdD w x):
  Calls Tryz.prog 41 #[.agg #[.int .i64 x.room,.slice x.a x.ps.length x.c],.int .i64 nm] w fun e w'=>e= .returned (.int .i64 (findF x.ps nm))∧Below w.heap.size w w':=by
 have W0:=zh (Wd.made hr 37)
 have h20:=hr.n
 clear hr
 go_enter Tryz.func41,Tryz.ntmps41
 go_wp2
 go_loopw [5] (fun i wr=>∃(k:Nat),k≤x.ps.length∧i= .int .i64 k∧Hid (∀j,j<k→(elF x.ps j).1≠nm)∧Hid (Wd w wr x)) (fun i _=>x.ps.length-(intOf i).toNat)
 case atStart=>exact⟨0,by omega,rfl,zh (fun j h=>absurd h (by omega)),W0⟩
 case round=>
  clear W0
  obtain⟨k,hk,rfl,HY,HW⟩:=hrel
  have c1:=(zu HW).c1
  have lt:=(zu HW).lt
  by_cases t:k<x.ps.length
  ·have kt:(k:Int)<x.ps.length:=by omega
   have AT:=zh (fun e=>findF_at t (zu HY) e)
   have NO:=zh (fun(e:¬(elF x.ps k).1=nm) j (h:j<k+1)=>show(elF x.ps j).1≠nm from by
    by_cases q:j=k
    ·subst q;exact e
    ·exact(zu HY) j (by omega))
   obtain⟨g,ea,lg,d0,d1,d2⟩:=cells_of (zu HW).r t
   generalize (elF x.ps k).1=z0 at *
   clear HY d1 d2
   rw[ea] at c1
   by_cases q:z0=nm
   ·have A:=zh ((zu AT) q)
    clear AT NO
    subst q
    go_wp2
    go_ret
    exact⟨congrArg (fun z=>Ending.returned (.int .i64 z)) (zu A).symm,(zu HW).b⟩
   ·have N:=zh ((zu NO) q)
    clear AT NO
    go_wp2
    go_roundw
    case rel=>exact⟨k+1,by omega,by go_num,N,HW⟩
    case measure=>simp[intOf];omega
  ·have e:k=x.ps.length:=by omega
   have E:=zh (show findF x.ps nm= -1 from findF_no (by rw[←e];exact zu HY))
   clear HY
   subst e
   go_wp2
   go_ret
   exact⟨congrArg (fun z=>Ending.returned (.int .i64 z)) (zu E).symm,(zu HW).b⟩
end SDk14
namespace SOk14
open Fil14 OpensF14 DiskH14 DkH14 SDk14
theorem sIn(w:World)(x lo hi:Int):Calls Tryz.prog 39 #[.int .i64 x,.int .i64 lo,.int .i64 hi] w fun e w'=>e= .returned (.bool (decide (lo≤x∧x≤hi)))∧w'=w:=by
 by_cases h0:lo≤x
 ·by_cases h1:x≤hi
  ·rw[decide_eq_true ⟨h0,h1⟩]
   go_enter Tryz.func39,Tryz.ntmps39
   go_wp2
   go_ret
   exact⟨rfl,rfl⟩
  ·rw[decide_eq_false (fun q=>h1 q.2)]
   go_enter Tryz.func39,Tryz.ntmps39
   go_wp2
   go_ret
   exact⟨rfl,rfl⟩
 ·rw[decide_eq_false (fun q=>h0 q.1)]
  go_enter Tryz.func39,Tryz.ntmps39
  go_wp2
  go_ret
  exact⟨rfl,rfl⟩
theorem sInB(w:World)(x lo hi:Int)(b:Bool)(h:decide (lo≤x∧x≤hi)=b):Calls Tryz.prog 39 #[.int .i64 x,.int .i64 lo,.int .i64 hi] w fun e w'=>e= .returned (.bool b)∧w'=w:=by
 rw[←h]
 exact sIn w x lo hi
def okN(n:Int):Bool:=decide (0≤n∧n≤21)
theorem sName(w:World)(n:Int):Calls Tryz.prog 85 #[.int .i64 n] w fun e w'=>e= .returned (.bool (okN n))∧w'=w:=by
 have S:=zh (fun u=>sInB u n 0 21 (okN n) rfl)
 generalize okN n=b at *
 go_enter Tryz.func85,Tryz.ntmps85
 go_wp2_with fail
 refine(zu S _).mono ?_
 rintro e u ⟨rfl,rfl⟩
 go_wp2
 go_ret
 exact⟨rfl,rfl⟩
def okAt(ps:List TF)(i:Nat):Prop:=okN (elF ps i).1=true∧(0<i→(elF ps (i-1)).1<(elF ps i).1)
instance (ps:List TF) (i:Nat):Decidable (okAt ps i):=by unfold okAt;infer_instance
def OkD(room:Int)(ps:List TF):Prop:=(0≤room∧room≤60000)∧ps.length≤22∧(sumZ ps:Int)≤room∧∀i,i<ps.length→okAt ps i
instance (room:Int) (ps:List TF):Decidable (OkD room ps):=by unfold OkD;infer_instance
theorem below_of_drew{w w':World}(h:Below w.drew.heap.size w.drew w'):Below w.heap.size w w':=((Below.refl w.heap.size w).drew).trans h
theorem sDiskOk(w:World)(x:Dx)(hr:RdD w x)(hz:sumZ x.ps≤1048576):
  Calls Tryz.prog 35 #[.agg #[.int .i64 x.room,.slice x.a x.ps.length x.c]] w fun e w'=>e= .returned (.bool (decide (OkD x.room x.ps)))∧Below w.heap.size w w':=by
 have W0:=zh (Wd.made hr 37)
 have h20:=hr.n
 clear hr
 by_cases q1:0≤x.room∧x.room≤60000
 case neg=>
  rw[decide_eq_false (fun h:OkD x.room x.ps=>q1 h.1)]
  have D:=zh (fun u=>sInB u x.room 0 60000 false (decide_eq_false q1))
  clear q1
  go_enter Tryz.func35,Tryz.ntmps35
  go_wp2_with fail
  have c0:=(zu W0).c0
  have c1:=(zu W0).c1
  have lt:=(zu W0).lt
  have K4:=And.intro c0 c1
  generalize w.alloc (.cells #[.int .i64 x.room,.slice x.a x.ps.length x.c] 37)=W at *
  refine wp_region_held_drew (S:=(fun w'=>w'.cell? ⟨w.heap.size,0,none⟩=some (.int .i64 x.room)∧w'.cell? ⟨w.heap.size,1,none⟩=some (.slice x.a x.ps.length x.c))) (by kernel_rfl) K4 (fun hHeld=>?_)
  refine zT 0 4 (.pointer (some ⟨w.heap.size,0,none⟩)) rfl hHeld ?_
  try simp only[Act.put,zA,zB,zC]
  refine zT 1 5 (.int .i64 x.room) rfl hHeld ?_
  try simp only[Act.put,zA,zB,zC]
  refine zR 2 rfl (fun K hK=>?_)
  go_simp
  go_wp2_with fail
  refine(zu D _).mono ?_
  rintro e w3 ⟨rfl,rfl⟩
  go_wp2_with fail
  refine hK.out _ _ K4 (fun hHeld=>?_)
  clear hK K
  try simp only[Act.put,zA,zB,zC]
  refine zT 3 7 (.bool true) rfl hHeld ?_
  try simp only[Act.put,zA,zB,zC]
  refine zT 4 8 (.bool true) rfl hHeld ?_
  try simp only[Act.put,zA,zB,zC]
  refine zS 5 9 rfl hHeld ?_
  try simp only[Act.put,zA,zB,zC]
  refine zS 6 10 rfl hHeld ?_
  try simp only[Act.put,zA,zB,zC]
  refine zS 7 11 rfl hHeld ?_
  try simp only[Act.put,zA,zB,zC]
  refine zS 8 12 rfl hHeld ?_
  try simp only[Act.put,zA,zB,zC]
  refine zT 9 13 (.bool true) rfl hHeld ?_
  try simp only[Act.put,zA,zB,zC]
  refine zT 10 14 (.bool true) rfl hHeld ?_
  try simp only[Act.put,zA,zB,zC]
  refine zS 11 15 rfl hHeld ?_
  try simp only[Act.put,zA,zB,zC]
  refine zS 12 16 rfl hHeld ?_
  try simp only[Act.put,zA,zB,zC]
  refine zS 13 17 rfl hHeld ?_
  try simp only[Act.put,zA,zB,zC]
  refine zS 14 18 rfl hHeld ?_
  try simp only[Act.put,zA,zB,zC]
  refine zS 15 19 rfl hHeld ?_
  try simp only[Act.put,zA,zB,zC]
  refine zT 16 20 (.bool true) rfl hHeld ?_
  try simp only[Act.put,zA,zB,zC]
  refine wpAnyH_done (by kernel_rfl) ?_ _
  go_wp2
  go_ret
  exact⟨rfl,(zu W0).b.drew⟩
 have D:=zh (fun u=>sInB u x.room 0 60000 true (decide_eq_true q1))
 by_cases q2:x.ps.length≤22
 case neg=>
  rw[decide_eq_false (fun h:OkD x.room x.ps=>q2 h.2.1)]
  have d2:(x.ps.length:Int)>22:=by omega
  clear q1
  go_enter Tryz.func35,Tryz.ntmps35
  go_wp2_with fail
  have c0:=(zu W0).c0
  have c1:=(zu W0).c1
  have lt:=(zu W0).lt
  have K4:=And.intro c0 c1
  generalize w.alloc (.cells #[.int .i64 x.room,.slice x.a x.ps.length x.c] 37)=W at *
  refine wp_region_held_drew (S:=(fun w'=>w'.cell? ⟨w.heap.size,0,none⟩=some (.int .i64 x.room)∧w'.cell? ⟨w.heap.size,1,none⟩=some (.slice x.a x.ps.length x.c))) (by kernel_rfl) K4 (fun hHeld=>?_)
  refine zT 0 4 (.pointer (some ⟨w.heap.size,0,none⟩)) rfl hHeld ?_
  try simp only[Act.put,zA,zB,zC]
  refine zT 1 5 (.int .i64 x.room) rfl hHeld ?_
  try simp only[Act.put,zA,zB,zC]
  refine zR 2 rfl (fun K hK=>?_)
  go_simp
  go_wp2_with fail
  refine(zu D _).mono ?_
  rintro e w3 ⟨rfl,rfl⟩
  go_wp2_with fail
  refine hK.out _ _ K4 (fun hHeld=>?_)
  clear hK K
  try simp only[Act.put,zA,zB,zC]
  refine zT 3 7 (.bool false) rfl hHeld ?_
  try simp only[Act.put,zA,zB,zC]
  refine zT 4 8 (.bool false) rfl hHeld ?_
  try simp only[Act.put,zA,zB,zC]
  refine zT 5 9 (.pointer (some ⟨w.heap.size,1,none⟩)) rfl hHeld ?_
  try simp only[Act.put,zA,zB,zC]
  refine zT 6 10 (.slice x.a x.ps.length x.c) rfl hHeld ?_
  try simp only[Act.put,zA,zB,zC]
  refine zR 7 rfl (fun K hK=>?_)
  go_simp
  refine hK.out _ _ K4 (fun hHeld=>?_)
  clear hK K
  try simp only[Act.put,zA,zB,zC]
  refine zT 8 12 (.bool true) rfl hHeld ?_
  try simp only[Act.put,zA,zB,zC]
  refine zT 9 13 (.bool true) rfl hHeld ?_
  try simp only[Act.put,zA,zB,zC]
  refine zT 10 14 (.bool true) rfl hHeld ?_
  try simp only[Act.put,zA,zB,zC]
  refine zS 11 15 rfl hHeld ?_
  try simp only[Act.put,zA,zB,zC]
  refine zS 12 16 rfl hHeld ?_
  try simp only[Act.put,zA,zB,zC]
  refine zS 13 17 rfl hHeld ?_
  try simp only[Act.put,zA,zB,zC]
  refine zS 14 18 rfl hHeld ?_
  try simp only[Act.put,zA,zB,zC]
  refine zS 15 19 rfl hHeld ?_
  try simp only[Act.put,zA,zB,zC]
  refine zT 16 20 (.bool true) rfl hHeld ?_
  try simp only[Act.put,zA,zB,zC]
  refine wpAnyH_done (by kernel_rfl) ?_ _
  go_wp2
  go_ret
  exact⟨rfl,(zu W0).b.drew⟩
 have d2:¬(x.ps.length:Int)>22:=by omega
 have Q:=zh (And.intro q1 q2)
 by_cases q3:(sumZ x.ps:Int)≤x.room
 case neg=>
  rw[decide_eq_false (fun h:OkD x.room x.ps=>q3 h.2.2.1)]
  have d3:(sumZ x.ps:Int)>x.room:=by omega
  clear q1
  go_enter Tryz.func35,Tryz.ntmps35
  go_wp2_with fail
  have c0:=(zu W0).c0
  have c1:=(zu W0).c1
  have lt:=(zu W0).lt
  have K4:=And.intro c0 c1
  generalize w.alloc (.cells #[.int .i64 x.room,.slice x.a x.ps.length x.c] 37)=W at *
  refine wp_region_held_drew (S:=(fun w'=>w'.cell? ⟨w.heap.size,0,none⟩=some (.int .i64 x.room)∧w'.cell? ⟨w.heap.size,1,none⟩=some (.slice x.a x.ps.length x.c))) (by kernel_rfl) K4 (fun hHeld=>?_)
  refine zT 0 4 (.pointer (some ⟨w.heap.size,0,none⟩)) rfl hHeld ?_
  try simp only[Act.put,zA,zB,zC]
  refine zT 1 5 (.int .i64 x.room) rfl hHeld ?_
  try simp only[Act.put,zA,zB,zC]
  refine zR 2 rfl (fun K hK=>?_)
  go_simp
  go_wp2_with fail
  refine(zu D _).mono ?_
  rintro e w3 ⟨rfl,rfl⟩
  go_wp2_with fail
  refine hK.out _ _ K4 (fun hHeld=>?_)
  clear hK K
  try simp only[Act.put,zA,zB,zC]
  refine zT 3 7 (.bool false) rfl hHeld ?_
  try simp only[Act.put,zA,zB,zC]
  refine zT 4 8 (.bool false) rfl hHeld ?_
  try simp only[Act.put,zA,zB,zC]
  refine zT 5 9 (.pointer (some ⟨w.heap.size,1,none⟩)) rfl hHeld ?_
  try simp only[Act.put,zA,zB,zC]
  refine zT 6 10 (.slice x.a x.ps.length x.c) rfl hHeld ?_
  try simp only[Act.put,zA,zB,zC]
  refine zR 7 rfl (fun K hK=>?_)
  go_simp
  refine hK.out _ _ K4 (fun hHeld=>?_)
  clear hK K
  try simp only[Act.put,zA,zB,zC]
  refine zT 8 12 (.bool false) rfl hHeld ?_
  try simp only[Act.put,zA,zB,zC]
  refine zT 9 13 (.bool false) rfl hHeld ?_
  try simp only[Act.put,zA,zB,zC]
  refine zT 10 14 (.bool false) rfl hHeld ?_
  try simp only[Act.put,zA,zB,zC]
  refine zT 11 15 (.agg #[.int .i64 x.room,.slice x.a x.ps.length x.c]) rfl hHeld ?_
  try simp only[Act.put,zA,zB,zC]
  refine zT 13 17 (.pointer (some ⟨w.heap.size,0,none⟩)) rfl hHeld ?_
  try simp only[Act.put,zA,zB,zC]
  refine zT 14 18 (.int .i64 x.room) rfl hHeld ?_
  try simp only[Act.put,zA,zB,zC]
  refine zR 12 rfl (fun K hK=>?_)
  go_simp
  go_wp2_with fail
  refine(sSize _ x (zu W0).drew.r hz).mono ?_
  rintro e w4 ⟨rfl,bb⟩
  have bW:=zh (below_of_drew bb)
  have W4:=zh ((zu W0).step (zu bW))
  have K5:=And.intro (zu W4).c0 (zu W4).c1
  clear bb
  go_wp2_with fail
  refine hK.out _ _ K5 (fun hHeld=>?_)
  clear hK K
  try simp only[Act.put,zA,zB,zC]
  refine zT 15 19 (.bool true) rfl hHeld ?_
  try simp only[Act.put,zA,zB,zC]
  refine zT 16 20 (.bool true) rfl hHeld ?_
  try simp only[Act.put,zA,zB,zC]
  refine wpAnyH_done (by kernel_rfl) ?_ _
  go_wp2
  go_ret
  exact⟨rfl,(zu W4).b⟩
 have d3:¬(sumZ x.ps:Int)>x.room:=by omega
 go_enter Tryz.func35,Tryz.ntmps35
 go_wp2_with fail
 have c0:=(zu W0).c0
 have c1:=(zu W0).c1
 have lt:=(zu W0).lt
 have K4:=And.intro c0 c1
 generalize w.alloc (.cells #[.int .i64 x.room,.slice x.a x.ps.length x.c] 37)=W at *
 refine wp_region_held_drew (S:=(fun w'=>w'.cell? ⟨w.heap.size,0,none⟩=some (.int .i64 x.room)∧w'.cell? ⟨w.heap.size,1,none⟩=some (.slice x.a x.ps.length x.c))) (by kernel_rfl) K4 (fun hHeld=>?_)
 refine zT 0 4 (.pointer (some ⟨w.heap.size,0,none⟩)) rfl hHeld ?_
 try simp only[Act.put,zA,zB,zC]
 refine zT 1 5 (.int .i64 x.room) rfl hHeld ?_
 try simp only[Act.put,zA,zB,zC]
 refine zR 2 rfl (fun K hK=>?_)
 go_simp
 go_wp2_with fail
 refine(zu D _).mono ?_
 rintro e w3 ⟨rfl,rfl⟩
 go_wp2_with fail
 refine hK.out _ _ K4 (fun hHeld=>?_)
 clear hK K
 try simp only[Act.put,zA,zB,zC]
 refine zT 3 7 (.bool false) rfl hHeld ?_
 try simp only[Act.put,zA,zB,zC]
 refine zT 4 8 (.bool false) rfl hHeld ?_
 try simp only[Act.put,zA,zB,zC]
 refine zT 5 9 (.pointer (some ⟨w.heap.size,1,none⟩)) rfl hHeld ?_
 try simp only[Act.put,zA,zB,zC]
 refine zT 6 10 (.slice x.a x.ps.length x.c) rfl hHeld ?_
 try simp only[Act.put,zA,zB,zC]
 refine zR 7 rfl (fun K hK=>?_)
 go_simp
 refine hK.out _ _ K4 (fun hHeld=>?_)
 clear hK K
 try simp only[Act.put,zA,zB,zC]
 refine zT 8 12 (.bool false) rfl hHeld ?_
 try simp only[Act.put,zA,zB,zC]
 refine zT 9 13 (.bool false) rfl hHeld ?_
 try simp only[Act.put,zA,zB,zC]
 refine zT 10 14 (.bool false) rfl hHeld ?_
 try simp only[Act.put,zA,zB,zC]
 refine zT 11 15 (.agg #[.int .i64 x.room,.slice x.a x.ps.length x.c]) rfl hHeld ?_
 try simp only[Act.put,zA,zB,zC]
 refine zT 13 17 (.pointer (some ⟨w.heap.size,0,none⟩)) rfl hHeld ?_
 try simp only[Act.put,zA,zB,zC]
 refine zT 14 18 (.int .i64 x.room) rfl hHeld ?_
 try simp only[Act.put,zA,zB,zC]
 refine zR 12 rfl (fun K hK=>?_)
 go_simp
 go_wp2_with fail
 refine(sSize _ x (zu W0).drew.r hz).mono ?_
 rintro e w4 ⟨rfl,bb⟩
 have bW:=zh (below_of_drew bb)
 have W4:=zh ((zu W0).step (zu bW))
 have K5:=And.intro (zu W4).c0 (zu W4).c1
 clear bb
 go_wp2_with fail
 refine hK.out _ _ K5 (fun hHeld=>?_)
 clear hK K
 try simp only[Act.put,zA,zB,zC]
 refine zT 15 19 (.bool false) rfl hHeld ?_
 try simp only[Act.put,zA,zB,zC]
 refine zT 16 20 (.bool false) rfl hHeld ?_
 try simp only[Act.put,zA,zB,zC]
 refine wpAnyH_done (by kernel_rfl) ?_ _
 clear W0 K4 K5 c0 c1 lt D bW
 have OK:=zh (fun h:∀i,i<x.ps.length→okAt x.ps i=>decide_eq_true (show OkD x.room x.ps from⟨(zu Q).1,(zu Q).2,q3,h⟩))
 clear q1
 go_wp2_with fail
 go_loopw [3] (fun i wr=>∃(k:Nat),k≤x.ps.length∧i= .int .i64 k∧Hid (∀j,j<k→okAt x.ps j)∧Hid (Wd w wr x)) (fun i _=>x.ps.length-(intOf i).toNat)
 case atStart=>exact⟨0,by omega,rfl,zh (fun j h=>absurd h (by omega)),W4⟩
 case round=>
  clear W4 hHeld
  obtain⟨k,hk,rfl,HY,HW⟩:=hrel
  have c1:=(zu HW).c1
  have lt:=(zu HW).lt
  by_cases t:k<x.ps.length
  ·have kt:(k:Int)<x.ps.length:=by omega
   obtain⟨g,ea,lg,d0,_,_⟩:=cells_of (zu HW).r t
   have NX:=zh (fun(e:okAt x.ps k) j (h:j<k+1)=>show okAt x.ps j from by
    by_cases q:j=k
    ·subst q;exact e
    ·exact(zu HY) j (by omega))
   have BAD:=zh (fun e:¬okAt x.ps k=>decide_eq_false (fun h:OkD x.room x.ps=>e (h.2.2.2 k t)))
   have NM0:=zh (fun u=>sName u (elF x.ps k).1)
   have DF:=zh (show okAt x.ps k↔okN (elF x.ps k).1=true∧(0<k→(elF x.ps (k-1)).1<(elF x.ps k).1) from Iff.rfl)
   rw[ea] at c1
   have RD:=zh (fun(h:0<k)=>(((zu HW).r.r g ea).2 (k-1) (by omega)).1)
   have EY:Hid (∃y,y=(elF x.ps (k-1)).1):=⟨_,rfl⟩
   obtain⟨y,ey⟩:=zu EY
   rw[←ey] at DF RD
   generalize okAt x.ps k=OA at *
   generalize (elF x.ps k).1=z at *
   clear ey EY HY ea
   cases qb:okN z
   ·have F:=zh ((zu BAD) (fun h=>by have:=((zu DF).1 h).1;rw[qb] at this;exact absurd this (by simp)))
    have NM:=zh (fun u=>by have:=(zu NM0) u;rw[qb] at this;exact this)
    have K6:=And.intro c1 d0
    clear BAD NX DF RD NM0 OK
    go_wp2_with fail
    refine wp_region_held_drew (S:=(fun w'=>w'.cell? ⟨w.heap.size,1,none⟩=some (.slice (some ⟨g,0,none⟩) x.ps.length x.c)∧w'.cell? ⟨g,k*3,none⟩=some (.int .i64 z))) (by kernel_rfl) K6 (fun hHeld=>?_)
    refine zT 0 28 (.pointer (some ⟨w.heap.size,1,none⟩)) rfl hHeld ?_
    try simp only[Act.put,zA,zB,zC]
    refine zT 1 29 (.slice (some ⟨g,0,none⟩) x.ps.length x.c) rfl hHeld ?_
    try simp only[Act.put,zA,zB,zC]
    refine zT 2 30 (.int .i64 k) rfl hHeld ?_
    try simp only[Act.put,zA,zB,zC]
    refine zT 3 31 (.pointer (some ⟨g,k*3,none⟩)) rfl hHeld ?_
    try simp only[Act.put,zA,zB,zC]
    refine zT 4 32 (.pointer (some ⟨g,k*3,none⟩)) rfl hHeld ?_
    try simp only[Act.put,zA,zB,zC]
    refine zT 5 33 (.int .i64 z) rfl hHeld ?_
    try simp only[Act.put,zA,zB,zC]
    refine zR 6 rfl (fun K hK=>?_)
    go_simp
    go_wp2_with fail
    refine(zu NM _).mono ?_
    rintro e w5 ⟨rfl,rfl⟩
    go_wp2_with fail
    refine hK.out _ _ K6 (fun hHeld=>?_)
    clear hK K
    try simp only[Act.put,zA,zB,zC]
    refine zT 7 35 (.bool true) rfl hHeld ?_
    try simp only[Act.put,zA,zB,zC]
    refine zT 8 36 (.bool true) rfl hHeld ?_
    try simp only[Act.put,zA,zB,zC]
    refine zS 9 37 rfl hHeld ?_
    try simp only[Act.put,zA,zB,zC]
    refine zS 10 38 rfl hHeld ?_
    try simp only[Act.put,zA,zB,zC]
    refine zS 11 39 rfl hHeld ?_
    try simp only[Act.put,zA,zB,zC]
    refine zS 12 40 rfl hHeld ?_
    try simp only[Act.put,zA,zB,zC]
    refine zS 13 41 rfl hHeld ?_
    try simp only[Act.put,zA,zB,zC]
    refine zS 14 42 rfl hHeld ?_
    try simp only[Act.put,zA,zB,zC]
    refine zS 15 43 rfl hHeld ?_
    try simp only[Act.put,zA,zB,zC]
    refine zS 16 44 rfl hHeld ?_
    try simp only[Act.put,zA,zB,zC]
    refine zS 17 45 rfl hHeld ?_
    try simp only[Act.put,zA,zB,zC]
    refine zS 18 46 rfl hHeld ?_
    try simp only[Act.put,zA,zB,zC]
    refine zS 19 47 rfl hHeld ?_
    try simp only[Act.put,zA,zB,zC]
    refine zS 20 48 rfl hHeld ?_
    try simp only[Act.put,zA,zB,zC]
    refine zS 21 49 rfl hHeld ?_
    try simp only[Act.put,zA,zB,zC]
    refine zS 22 50 rfl hHeld ?_
    try simp only[Act.put,zA,zB,zC]
    refine zS 23 51 rfl hHeld ?_
    try simp only[Act.put,zA,zB,zC]
    refine zS 24 52 rfl hHeld ?_
    try simp only[Act.put,zA,zB,zC]
    refine zS 25 53 rfl hHeld ?_
    try simp only[Act.put,zA,zB,zC]
    refine zS 26 54 rfl hHeld ?_
    try simp only[Act.put,zA,zB,zC]
    refine zT 27 55 (.bool true) rfl hHeld ?_
    try simp only[Act.put,zA,zB,zC]
    refine wpAnyH_done (by kernel_rfl) ?_ _
    go_wp2
    go_ret
    exact⟨by rw[zu F];rfl,(zu HW).b.drew⟩
   have NM:=zh (fun u=>by have:=(zu NM0) u;rw[qb] at this;exact this)
   by_cases k0:0<k
   ·by_cases qy:y<z
    ·have GN:=zh ((zu NX) ((zu DF).2 ⟨qb,fun _=>qy⟩))
     have p0:=(zu RD) k0
     obtain⟨p,hp⟩:∃p,p=k-1:=⟨_,rfl⟩
     rw[←hp] at p0
     have a1:IntKind.i64.wrap ((k:Int) -1)=p:=by simp[IntKind.wrap,go_sem];omega
     have k1:(k:Int)>0:=by omega
     have pl:(p:Int)<x.ps.length:=by omega
     have qn:¬y≥z:=by omega
     have K6:=And.intro c1 (And.intro d0 p0)
     clear BAD NX DF RD NM0 OK hp qy
     go_wp2_with fail
     refine wp_region_held_drew (S:=(fun w'=>w'.cell? ⟨w.heap.size,1,none⟩=some (.slice (some ⟨g,0,none⟩) x.ps.length x.c)∧w'.cell? ⟨g,k*3,none⟩=some (.int .i64 z)∧w'.cell? ⟨g,p*3,none⟩=some (.int .i64 y))) (by kernel_rfl) K6 (fun hHeld=>?_)
     refine zT 0 28 (.pointer (some ⟨w.heap.size,1,none⟩)) rfl hHeld ?_
     try simp only[Act.put,zA,zB,zC]
     refine zT 1 29 (.slice (some ⟨g,0,none⟩) x.ps.length x.c) rfl hHeld ?_
     try simp only[Act.put,zA,zB,zC]
     refine zT 2 30 (.int .i64 k) rfl hHeld ?_
     try simp only[Act.put,zA,zB,zC]
     refine zT 3 31 (.pointer (some ⟨g,k*3,none⟩)) rfl hHeld ?_
     try simp only[Act.put,zA,zB,zC]
     refine zT 4 32 (.pointer (some ⟨g,k*3,none⟩)) rfl hHeld ?_
     try simp only[Act.put,zA,zB,zC]
     refine zT 5 33 (.int .i64 z) rfl hHeld ?_
     try simp only[Act.put,zA,zB,zC]
     refine zR 6 rfl (fun K hK=>?_)
     go_simp
     go_wp2_with fail
     refine(zu NM _).mono ?_
     rintro e w5 ⟨rfl,rfl⟩
     go_wp2_with fail
     refine hK.out _ _ K6 (fun hHeld=>?_)
     clear hK K
     try simp only[Act.put,zA,zB,zC]
     refine zT 7 35 (.bool false) rfl hHeld ?_
     try simp only[Act.put,zA,zB,zC]
     refine zT 8 36 (.bool false) rfl hHeld ?_
     try simp only[Act.put,zA,zB,zC]
     refine zT 9 37 (.int .i64 k) rfl hHeld ?_
     try simp only[Act.put,zA,zB,zC]
     refine zT 10 38 (.bool true) rfl hHeld ?_
     try simp only[Act.put,zA,zB,zC]
     refine zT 11 39 (.bool true) rfl hHeld ?_
     try simp only[Act.put,zA,zB,zC]
     refine zT 12 40 (.pointer (some ⟨w.heap.size,1,none⟩)) rfl hHeld ?_
     try simp only[Act.put,zA,zB,zC]
     refine zT 13 41 (.slice (some ⟨g,0,none⟩) x.ps.length x.c) rfl hHeld ?_
     try simp only[Act.put,zA,zB,zC]
     refine zT 14 42 (.int .i64 k) rfl hHeld ?_
     try simp only[Act.put,zA,zB,zC]
     refine zT 15 43 (.int .i64 p) rfl hHeld ?_
     try simp only[Act.put,zA,zB,zC]
     refine zT 16 44 (.pointer (some ⟨g,p*3,none⟩)) rfl hHeld ?_
     try simp only[Act.put,zA,zB,zC]
     refine zT 17 45 (.pointer (some ⟨g,p*3,none⟩)) rfl hHeld ?_
     try simp only[Act.put,zA,zB,zC]
     refine zT 18 46 (.int .i64 y) rfl hHeld ?_
     try simp only[Act.put,zA,zB,zC]
     refine zT 19 47 (.pointer (some ⟨w.heap.size,1,none⟩)) rfl hHeld ?_
     try simp only[Act.put,zA,zB,zC]
     refine zT 20 48 (.slice (some ⟨g,0,none⟩) x.ps.length x.c) rfl hHeld ?_
     try simp only[Act.put,zA,zB,zC]
     refine zT 21 49 (.int .i64 k) rfl hHeld ?_
     try simp only[Act.put,zA,zB,zC]
     refine zT 22 50 (.pointer (some ⟨g,k*3,none⟩)) rfl hHeld ?_
     try simp only[Act.put,zA,zB,zC]
     refine zT 23 51 (.pointer (some ⟨g,k*3,none⟩)) rfl hHeld ?_
     try simp only[Act.put,zA,zB,zC]
     refine zT 24 52 (.int .i64 z) rfl hHeld ?_
     try simp only[Act.put,zA,zB,zC]
     refine zT 25 53 (.bool false) rfl hHeld ?_
     try simp only[Act.put,zA,zB,zC]
     refine zT 26 54 (.bool false) rfl hHeld ?_
     try simp only[Act.put,zA,zB,zC]
     refine zT 27 55 (.bool false) rfl hHeld ?_
     try simp only[Act.put,zA,zB,zC]
     refine wpAnyH_done (by kernel_rfl) ?_ _
     go_wp2
     go_roundw
     case rel=>exact⟨k+1,by omega,by go_num,GN,(zu HW).drew⟩
     case measure=>simp[intOf];omega
    ·have F:=zh ((zu BAD) (fun h=>qy (((zu DF).1 h).2 k0)))
     have p0:=(zu RD) k0
     obtain⟨p,hp⟩:∃p,p=k-1:=⟨_,rfl⟩
     rw[←hp] at p0
     have a1:IntKind.i64.wrap ((k:Int) -1)=p:=by simp[IntKind.wrap,go_sem];omega
     have k1:(k:Int)>0:=by omega
     have pl:(p:Int)<x.ps.length:=by omega
     have qn:y≥z:=by omega
     have K6:=And.intro c1 (And.intro d0 p0)
     clear BAD NX DF RD NM0 OK hp qy
     go_wp2_with fail
     refine wp_region_held_drew (S:=(fun w'=>w'.cell? ⟨w.heap.size,1,none⟩=some (.slice (some ⟨g,0,none⟩) x.ps.length x.c)∧w'.cell? ⟨g,k*3,none⟩=some (.int .i64 z)∧w'.cell? ⟨g,p*3,none⟩=some (.int .i64 y))) (by kernel_rfl) K6 (fun hHeld=>?_)
     refine zT 0 28 (.pointer (some ⟨w.heap.size,1,none⟩)) rfl hHeld ?_
     try simp only[Act.put,zA,zB,zC]
     refine zT 1 29 (.slice (some ⟨g,0,none⟩) x.ps.length x.c) rfl hHeld ?_
     try simp only[Act.put,zA,zB,zC]
     refine zT 2 30 (.int .i64 k) rfl hHeld ?_
     try simp only[Act.put,zA,zB,zC]
     refine zT 3 31 (.pointer (some ⟨g,k*3,none⟩)) rfl hHeld ?_
     try simp only[Act.put,zA,zB,zC]
     refine zT 4 32 (.pointer (some ⟨g,k*3,none⟩)) rfl hHeld ?_
     try simp only[Act.put,zA,zB,zC]
     refine zT 5 33 (.int .i64 z) rfl hHeld ?_
     try simp only[Act.put,zA,zB,zC]
     refine zR 6 rfl (fun K hK=>?_)
     go_simp
     go_wp2_with fail
     refine(zu NM _).mono ?_
     rintro e w5 ⟨rfl,rfl⟩
     go_wp2_with fail
     refine hK.out _ _ K6 (fun hHeld=>?_)
     clear hK K
     try simp only[Act.put,zA,zB,zC]
     refine zT 7 35 (.bool false) rfl hHeld ?_
     try simp only[Act.put,zA,zB,zC]
     refine zT 8 36 (.bool false) rfl hHeld ?_
     try simp only[Act.put,zA,zB,zC]
     refine zT 9 37 (.int .i64 k) rfl hHeld ?_
     try simp only[Act.put,zA,zB,zC]
     refine zT 10 38 (.bool true) rfl hHeld ?_
     try simp only[Act.put,zA,zB,zC]
     refine zT 11 39 (.bool true) rfl hHeld ?_
     try simp only[Act.put,zA,zB,zC]
     refine zT 12 40 (.pointer (some ⟨w.heap.size,1,none⟩)) rfl hHeld ?_
     try simp only[Act.put,zA,zB,zC]
     refine zT 13 41 (.slice (some ⟨g,0,none⟩) x.ps.length x.c) rfl hHeld ?_
     try simp only[Act.put,zA,zB,zC]
     refine zT 14 42 (.int .i64 k) rfl hHeld ?_
     try simp only[Act.put,zA,zB,zC]
     refine zT 15 43 (.int .i64 p) rfl hHeld ?_
     try simp only[Act.put,zA,zB,zC]
     refine zT 16 44 (.pointer (some ⟨g,p*3,none⟩)) rfl hHeld ?_
     try simp only[Act.put,zA,zB,zC]
     refine zT 17 45 (.pointer (some ⟨g,p*3,none⟩)) rfl hHeld ?_
     try simp only[Act.put,zA,zB,zC]
     refine zT 18 46 (.int .i64 y) rfl hHeld ?_
     try simp only[Act.put,zA,zB,zC]
     refine zT 19 47 (.pointer (some ⟨w.heap.size,1,none⟩)) rfl hHeld ?_
     try simp only[Act.put,zA,zB,zC]
     refine zT 20 48 (.slice (some ⟨g,0,none⟩) x.ps.length x.c) rfl hHeld ?_
     try simp only[Act.put,zA,zB,zC]
     refine zT 21 49 (.int .i64 k) rfl hHeld ?_
     try simp only[Act.put,zA,zB,zC]
     refine zT 22 50 (.pointer (some ⟨g,k*3,none⟩)) rfl hHeld ?_
     try simp only[Act.put,zA,zB,zC]
     refine zT 23 51 (.pointer (some ⟨g,k*3,none⟩)) rfl hHeld ?_
     try simp only[Act.put,zA,zB,zC]
     refine zT 24 52 (.int .i64 z) rfl hHeld ?_
     try simp only[Act.put,zA,zB,zC]
     refine zT 25 53 (.bool true) rfl hHeld ?_
     try simp only[Act.put,zA,zB,zC]
     refine zT 26 54 (.bool true) rfl hHeld ?_
     try simp only[Act.put,zA,zB,zC]
     refine zT 27 55 (.bool true) rfl hHeld ?_
     try simp only[Act.put,zA,zB,zC]
     refine wpAnyH_done (by kernel_rfl) ?_ _
     go_wp2
     go_ret
     exact⟨by rw[zu F];rfl,(zu HW).b.drew⟩
   ·have GN:=zh ((zu NX) ((zu DF).2 ⟨qb,fun h=>absurd h k0⟩))
    have kn:¬(k:Int)>0:=by omega
    have K6:=And.intro c1 d0
    clear BAD NX DF RD NM0 OK
    go_wp2_with fail
    refine wp_region_held_drew (S:=(fun w'=>w'.cell? ⟨w.heap.size,1,none⟩=some (.slice (some ⟨g,0,none⟩) x.ps.length x.c)∧w'.cell? ⟨g,k*3,none⟩=some (.int .i64 z))) (by kernel_rfl) K6 (fun hHeld=>?_)
    refine zT 0 28 (.pointer (some ⟨w.heap.size,1,none⟩)) rfl hHeld ?_
    try simp only[Act.put,zA,zB,zC]
    refine zT 1 29 (.slice (some ⟨g,0,none⟩) x.ps.length x.c) rfl hHeld ?_
    try simp only[Act.put,zA,zB,zC]
    refine zT 2 30 (.int .i64 k) rfl hHeld ?_
    try simp only[Act.put,zA,zB,zC]
    refine zT 3 31 (.pointer (some ⟨g,k*3,none⟩)) rfl hHeld ?_
    try simp only[Act.put,zA,zB,zC]
    refine zT 4 32 (.pointer (some ⟨g,k*3,none⟩)) rfl hHeld ?_
    try simp only[Act.put,zA,zB,zC]
    refine zT 5 33 (.int .i64 z) rfl hHeld ?_
    try simp only[Act.put,zA,zB,zC]
    refine zR 6 rfl (fun K hK=>?_)
    go_simp
    go_wp2_with fail
    refine(zu NM _).mono ?_
    rintro e w5 ⟨rfl,rfl⟩
    go_wp2_with fail
    refine hK.out _ _ K6 (fun hHeld=>?_)
    clear hK K
    try simp only[Act.put,zA,zB,zC]
    refine zT 7 35 (.bool false) rfl hHeld ?_
    try simp only[Act.put,zA,zB,zC]
    refine zT 8 36 (.bool false) rfl hHeld ?_
    try simp only[Act.put,zA,zB,zC]
    refine zT 9 37 (.int .i64 k) rfl hHeld ?_
    try simp only[Act.put,zA,zB,zC]
    refine zT 10 38 (.bool false) rfl hHeld ?_
    try simp only[Act.put,zA,zB,zC]
    refine zT 11 39 (.bool false) rfl hHeld ?_
    try simp only[Act.put,zA,zB,zC]
    refine zS 12 40 rfl hHeld ?_
    try simp only[Act.put,zA,zB,zC]
    refine zS 13 41 rfl hHeld ?_
    try simp only[Act.put,zA,zB,zC]
    refine zS 14 42 rfl hHeld ?_
    try simp only[Act.put,zA,zB,zC]
    refine zS 15 43 rfl hHeld ?_
    try simp only[Act.put,zA,zB,zC]
    refine zS 16 44 rfl hHeld ?_
    try simp only[Act.put,zA,zB,zC]
    refine zS 17 45 rfl hHeld ?_
    try simp only[Act.put,zA,zB,zC]
    refine zS 18 46 rfl hHeld ?_
    try simp only[Act.put,zA,zB,zC]
    refine zS 19 47 rfl hHeld ?_
    try simp only[Act.put,zA,zB,zC]
    refine zS 20 48 rfl hHeld ?_
    try simp only[Act.put,zA,zB,zC]
    refine zS 21 49 rfl hHeld ?_
    try simp only[Act.put,zA,zB,zC]
    refine zS 22 50 rfl hHeld ?_
    try simp only[Act.put,zA,zB,zC]
    refine zS 23 51 rfl hHeld ?_
    try simp only[Act.put,zA,zB,zC]
    refine zS 24 52 rfl hHeld ?_
    try simp only[Act.put,zA,zB,zC]
    refine zS 25 53 rfl hHeld ?_
    try simp only[Act.put,zA,zB,zC]
    refine zT 26 54 (.bool false) rfl hHeld ?_
    try simp only[Act.put,zA,zB,zC]
    refine zT 27 55 (.bool false) rfl hHeld ?_
    try simp only[Act.put,zA,zB,zC]
    refine wpAnyH_done (by kernel_rfl) ?_ _
    go_wp2
    go_roundw
    case rel=>exact⟨k+1,by omega,by go_num,GN,(zu HW).drew⟩
    case measure=>simp[intOf];omega
  ·have e:k=x.ps.length:=by omega
   have E:=zh ((zu OK) (by rw[←e];exact zu HY))
   clear HY OK
   subst e
   go_wp2
   go_ret
   exact⟨by rw[zu E];rfl,(zu HW).b⟩
end SOk14
namespace SRd14
open Fil14 OpensF14 DiskH14 DkH14 SDk14 SOk14
def bytesAt(ps:List TF)(k:Nat):ByteArray:=(elF ps k).2.1++(elF ps k).2.2
def atD(room:Int)(ps:List TF)(nm:Int):Int×Int:=if OkD room ps∧okN nm=true then(findF ps nm,if findF ps nm<0 then 2 else 0) else(-1,1)
theorem sAt(w:World)(x:Dx)(nm:Int)(hr:RdD w x)(hz:sumZ x.ps≤1048576):
  Calls Tryz.prog 99 #[.agg #[.int .i64 x.room,.slice x.a x.ps.length x.c],.int .i64 nm] w fun e w'=>e= .returned (.tuple #[.int .i64 (atD x.room x.ps nm).1,.int .i64 (atD x.room x.ps nm).2])∧Below w.heap.size w w':=by
 have W0:=zh (Wd.made hr 37)
 have OK0:=zh (sDiskOk _ x (zu W0).r hz)
 have NM0:=zh (fun u=>sName u nm)
 have FD:=zh (fun u h=>sFind u x nm h)
 have RE:=zh (show atD x.room x.ps nm=if OkD x.room x.ps∧okN nm=true then(findF x.ps nm,if findF x.ps nm<0 then 2 else 0) else(-1,1) from rfl)
 generalize atD x.room x.ps nm=rr at *
 generalize findF x.ps nm=f at *
 clear hr
 by_cases q:OkD x.room x.ps
 case neg=>
  have OK:=zh (show Calls Tryz.prog 35 #[.agg #[.int .i64 x.room,.slice x.a x.ps.length x.c]] _ fun e w'=>e= .returned (.bool false)∧Below _ _ w' by have:=zu OK0;rw[decide_eq_false q] at this;exact this)
  have E:=zh (show rr=(-1,1) by rw[zu RE,if_neg (fun h=>q h.1)])
  clear OK0 RE q NM0 FD
  go_enter Tryz.func99,Tryz.ntmps99
  go_wp2_with fail
  refine(zu OK).mono ?_
  rintro e w2 ⟨rfl,b2⟩
  have W2:=zh ((zu W0).step b2)
  clear b2 W0 OK
  go_wp2
  go_ret2
  exact⟨by rw[zu E];rfl,(zu W2).b⟩
 have OK:=zh (show Calls Tryz.prog 35 #[.agg #[.int .i64 x.room,.slice x.a x.ps.length x.c]] _ fun e w'=>e= .returned (.bool true)∧Below _ _ w' by have:=zu OK0;rw[decide_eq_true q] at this;exact this)
 cases qn:okN nm
 ·have NM:=zh (fun u=>by have:=(zu NM0) u;rw[qn] at this;exact this)
  have E:=zh (show rr=(-1,1) by rw[zu RE,if_neg (fun h=>by rw[qn] at h;exact absurd h.2 (by simp))])
  clear OK0 RE q NM0 FD
  go_enter Tryz.func99,Tryz.ntmps99
  go_wp2_with fail
  refine(zu OK).mono ?_
  rintro e w2 ⟨rfl,b2⟩
  have W2:=zh ((zu W0).step b2)
  clear b2 W0 OK
  go_wp2_with fail
  refine(zu NM _).mono ?_
  rintro e w3 ⟨rfl,rfl⟩
  go_wp2
  go_ret2
  exact⟨by rw[zu E];rfl,(zu W2).b⟩
 ·have NM:=zh (fun u=>by have:=(zu NM0) u;rw[qn] at this;exact this)
  have E:=zh (show rr=(f,if f<0 then 2 else 0) by rw[zu RE,if_pos ⟨q,qn⟩])
  clear OK0 RE q NM0
  by_cases q0:f<0
  ·have E1:=zh (show rr=(f,2) by rw[zu E,if_pos q0])
   clear E
   go_enter Tryz.func99,Tryz.ntmps99
   go_wp2_with fail
   refine(zu OK).mono ?_
   rintro e w2 ⟨rfl,b2⟩
   have W2:=zh ((zu W0).step b2)
   clear b2 W0 OK
   go_wp2_with fail
   refine(zu NM _).mono ?_
   rintro e w3 ⟨rfl,rfl⟩
   have c0:=(zu W2).c0
   have c1:=(zu W2).c1
   go_wp2_with fail
   refine((zu FD) _ (zu W2).r).mono ?_
   rintro e w4 ⟨rfl,b4⟩
   have W4:=zh ((zu W2).step b4)
   clear b4 W2 c0 c1 FD
   go_wp2
   go_ret2
   exact⟨by rw[zu E1];rfl,(zu W4).b⟩
  ·have E1:=zh (show rr=(f,0) by rw[zu E,if_neg q0])
   clear E
   go_enter Tryz.func99,Tryz.ntmps99
   go_wp2_with fail
   refine(zu OK).mono ?_
   rintro e w2 ⟨rfl,b2⟩
   have W2:=zh ((zu W0).step b2)
   clear b2 W0 OK
   go_wp2_with fail
   refine(zu NM _).mono ?_
   rintro e w3 ⟨rfl,rfl⟩
   have c0:=(zu W2).c0
   have c1:=(zu W2).c1
   go_wp2_with fail
   refine((zu FD) _ (zu W2).r).mono ?_
   rintro e w4 ⟨rfl,b4⟩
   have W4:=zh ((zu W2).step b4)
   clear b4 W2 c0 c1 FD
   go_wp2
   go_ret2
   exact⟨by rw[zu E1];rfl,(zu W4).b⟩
end SRd14
namespace SAft17
theorem sAfter(w:World)(n:Int)(h:0≤n∧n≤19):Calls Tryz.prog 48 #[.int .i64 n] w fun e w'=>e= .returned (.int .i64 ((n+1)%20))∧w'=w:=by
 have a1:wrap64 (n+1)=n+1:=by rw[wrap64];omega
 have E:wrap64 ((n+1).tmod 20)=(n+1)%20:=by rw[Int.tmod_eq_emod_of_nonneg (by omega),wrap64];omega
 go_enter Tryz.func48,Tryz.ntmps48
 go_wp2
 go_ret
 exact⟨by first|rfl|(congr 2;first|exact E|(rw[Int.tmod_eq_emod_of_nonneg (by omega)])),rfl⟩
end SAft17
end Go.Proofs.YtppkkmaoaiopaaaGreat
