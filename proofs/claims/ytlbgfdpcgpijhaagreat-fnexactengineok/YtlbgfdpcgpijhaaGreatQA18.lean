/- Texts of one proof. -/
import Derived.Test.YtlbgfdpcgpijhaaGreatQA1
import Derived.Deep.Strs
open Go.ChangeShapes Go.WideShapes Go.ChangeAt Go.RowKit
set_option linter.unusedVariables false
set_option linter.unusedSimpArgs false
set_option maxRecDepth 100000
set_option maxHeartbeats 32000000
namespace Go.Proofs.YtlbgfdpcgpijhaaGreat
namespace Opens5
open Tup5
theorem cells_of{H:Type}{enc:TypeId×Value→H}{P:Program}{w:World}{base:Nat}{spare:Nat→Bool}{held:Bool}{e i:TypeId}{f0 f1 f2 f3 f4:Field}{fuel:Nat}{cs:List Value}{x:DataW H×List MemPlace}
  (he:P.underlying e=some (.struct #[f0,f1,f2,f3,f4]))(hc:(P.cellsOf e==5&&P.cellsOf i==1&&f0.type==i&&f1.type==i&&f2.type==i&&f3.type==i&&f4.type==i&&f0.offset==0&&f1.offset==1&&f2.offset==2&&f3.offset==3&&f4.offset==4)=true)(hi:P.underlying i=some (.int .i64))
  (h:DataW.trod enc P w base spare held fuel e cs=some x):∃p:T5,cs=[.int .i64 p.1,.int .i64 p.2.1,.int .i64 p.2.2.1,.int .i64 p.2.2.2.1,.int .i64 p.2.2.2.2]:=by
 simp at hc
 obtain⟨⟨⟨⟨⟨⟨⟨⟨⟨⟨⟨ce,ci⟩,e0⟩,e1⟩,e2⟩,e3⟩,e4⟩,o0⟩,o1⟩,o2⟩,o3⟩,o4⟩:=hc
 obtain⟨xs,k,_,_,hl,hlen,hf⟩:=DataW.trod_struct he h
 rw[ce] at hl
 match xs,hlen,cs,hl with
 |[y0,y1,y2,y3,y4],_,[v0,v1,v2,v3,v4],_=>
  have g0:=hf 0 f0 rfl
  have g1:=hf 1 f1 rfl
  have g2:=hf 2 f2 rfl
  have g3:=hf 3 f3 rfl
  have g4:=hf 4 f4 rfl
  rw[e0] at g0
  simp[o0,ci] at g0
  obtain⟨x0,q0,_⟩:=DataW.trod_int hi g0
  simp at q0
  rw[e1] at g1
  simp[o1,ci] at g1
  obtain⟨x1,q1,_⟩:=DataW.trod_int hi g1
  simp at q1
  rw[e2] at g2
  simp[o2,ci] at g2
  obtain⟨x2,q2,_⟩:=DataW.trod_int hi g2
  simp at q2
  rw[e3] at g3
  simp[o3,ci] at g3
  obtain⟨x3,q3,_⟩:=DataW.trod_int hi g3
  simp at q3
  rw[e4] at g4
  simp[o4,ci] at g4
  obtain⟨x4,q4,_⟩:=DataW.trod_int hi g4
  simp at q4
  subst q0 q1 q2 q3 q4
  exact⟨(x0,x1,x2,x3,x4),rfl⟩
theorem open_rows{H:Type}{enc:TypeId×Value→H}{P:Program}{w:World}{base:Nat}{spare:Nat→Bool}{held:Bool}{t e i:TypeId}{f0 f1 f2 f3 f4:Field}{fuel:Nat}{a:Option Addr}{len cap:Nat}{x:DataW H×List MemPlace}
  (ht:P.underlying t=some (.slice e))(he:P.underlying e=some (.struct #[f0,f1,f2,f3,f4]))(hc:(P.cellsOf e==5&&P.cellsOf i==1&&f0.type==i&&f1.type==i&&f2.type==i&&f3.type==i&&f4.type==i&&f0.offset==0&&f1.offset==1&&f2.offset==2&&f3.offset==3&&f4.offset==4)=true)(hi:P.underlying i=some (.int .i64))
  (h:DataW.trod enc P w base spare held fuel t (Value.slice a len cap).cells.toList=some x):∃ps:List T5,ps.length=len∧len≤9223372036854775807∧Reads5 w a ps:=by
 have ce:P.cellsOf e=5:=by
  simp at hc
  exact hc.1.1.1.1.1.1.1.1.1.1.1
 rcases Deep.open_slice ht h with⟨hcs,_⟩|⟨b,l,c,m,n,D,Pl,hcs,_,hlc,hm,hmm,_,hx⟩
 ·simp[Value.cells] at hcs
  obtain⟨rfl,rfl,rfl⟩:=hcs
  exact⟨[],rfl,by omega,.inl rfl⟩
 ·simp[Value.cells] at hcs
  obtain⟨rfl,rfl,rfl⟩:=hcs
  have hlm:len≤m:=by rw[hmm];split<;>omega
  have each:∀j,j<len→∃p:T5,w.cell? (b.add (j*5))=some (.int .i64 p.1)∧w.cell? (b.add (j*5+1))=some (.int .i64 p.2.1)∧w.cell? (b.add (j*5+2))=some (.int .i64 p.2.2.1)∧w.cell? (b.add (j*5+3))=some (.int .i64 p.2.2.2.1)∧w.cell? (b.add (j*5+4))=some (.int .i64 p.2.2.2.2):=by
   intro j hj
   obtain⟨cs',h1,h2⟩:=hx j (by omega)
   rw[ce] at h1
   obtain⟨_,hlen,hcell⟩:=World.cells?_some h1
   obtain⟨p,rfl⟩:=cells_of he hc hi h2
   have d0:=hcell 0 (by omega)
   have d1:=hcell 1 (by omega)
   have d2:=hcell 2 (by omega)
   have d3:=hcell 3 (by omega)
   have d4:=hcell 4 (by omega)
   rw[Deep.add_add] at d0 d1 d2 d3 d4
   exact⟨p,by simpa using d0,by simpa using d1,by simpa using d2,by simpa using d3,by simpa using d4⟩
  obtain⟨q,hq⟩:=Deep.choose_lt each
  refine⟨(List.range len).map q,by simp,by unfold maxLen at hm;omega,?_⟩
  by_cases z:len=0
  ·exact .inl (by simp[z])
  ·obtain⟨blk,off,spot⟩:=b
   have c0:=(hq 0 (by omega)).1
   have hspot:spot=none:=by simpa[Addr.add] using World.cell?_spot c0
   subst hspot
   have c0':w.cell? ⟨blk,off,none⟩=some (.int .i64 (q 0).1):=by simpa[Addr.add] using c0
   refine .inr ⟨blk,off,rfl,World.block_lt_of_cell? w _ c0',fun j hj=>?_⟩
   have hj':j<len:=by simpa using hj
   obtain⟨p0,p1,p2,p3,p4⟩:=hq j hj'
   rw[Addr.add_lit] at p0 p1 p2 p3 p4
   have hg:el5 ((List.range len).map q) j=q j:=by simp[List.getD,hj']
   rw[hg]
   exact⟨p0,by rw[Nat.add_assoc];exact p1,by rw[Nat.add_assoc];exact p2,by rw[Nat.add_assoc];exact p3,by rw[Nat.add_assoc];exact p4⟩
end Opens5
namespace Opens8
open Tup8
theorem cells_of{H:Type}{enc:TypeId×Value→H}{P:Program}{w:World}{base:Nat}{spare:Nat→Bool}{held:Bool}{e i:TypeId}{f0 f1 f2 f3 f4 f5 f6 f7:Field}{fuel:Nat}{cs:List Value}{x:DataW H×List MemPlace}
  (he:P.underlying e=some (.struct #[f0,f1,f2,f3,f4,f5,f6,f7]))(hc:(P.cellsOf e==8&&P.cellsOf i==1&&f0.type==i&&f1.type==i&&f2.type==i&&f3.type==i&&f4.type==i&&f5.type==i&&f6.type==i&&f7.type==i&&f0.offset==0&&f1.offset==1&&f2.offset==2&&f3.offset==3&&f4.offset==4&&f5.offset==5&&f6.offset==6&&f7.offset==7)=true)(hi:P.underlying i=some (.int .i64))
  (h:DataW.trod enc P w base spare held fuel e cs=some x):∃p:T8,cs=[.int .i64 p.1,.int .i64 p.2.1,.int .i64 p.2.2.1,.int .i64 p.2.2.2.1,.int .i64 p.2.2.2.2.1,.int .i64 p.2.2.2.2.2.1,.int .i64 p.2.2.2.2.2.2.1,.int .i64 p.2.2.2.2.2.2.2]:=by
 simp at hc
 obtain⟨⟨⟨⟨⟨⟨⟨⟨⟨⟨⟨⟨⟨⟨⟨⟨⟨ce,ci⟩,e0⟩,e1⟩,e2⟩,e3⟩,e4⟩,e5⟩,e6⟩,e7⟩,o0⟩,o1⟩,o2⟩,o3⟩,o4⟩,o5⟩,o6⟩,o7⟩:=hc
 obtain⟨xs,k,_,_,hl,hlen,hf⟩:=DataW.trod_struct he h
 rw[ce] at hl
 match xs,hlen,cs,hl with
 |[y0,y1,y2,y3,y4,y5,y6,y7],_,[v0,v1,v2,v3,v4,v5,v6,v7],_=>
  have g0:=hf 0 f0 rfl
  have g1:=hf 1 f1 rfl
  have g2:=hf 2 f2 rfl
  have g3:=hf 3 f3 rfl
  have g4:=hf 4 f4 rfl
  have g5:=hf 5 f5 rfl
  have g6:=hf 6 f6 rfl
  have g7:=hf 7 f7 rfl
  rw[e0] at g0
  simp[o0,ci] at g0
  obtain⟨x0,q0,_⟩:=DataW.trod_int hi g0
  simp at q0
  rw[e1] at g1
  simp[o1,ci] at g1
  obtain⟨x1,q1,_⟩:=DataW.trod_int hi g1
  simp at q1
  rw[e2] at g2
  simp[o2,ci] at g2
  obtain⟨x2,q2,_⟩:=DataW.trod_int hi g2
  simp at q2
  rw[e3] at g3
  simp[o3,ci] at g3
  obtain⟨x3,q3,_⟩:=DataW.trod_int hi g3
  simp at q3
  rw[e4] at g4
  simp[o4,ci] at g4
  obtain⟨x4,q4,_⟩:=DataW.trod_int hi g4
  simp at q4
  rw[e5] at g5
  simp[o5,ci] at g5
  obtain⟨x5,q5,_⟩:=DataW.trod_int hi g5
  simp at q5
  rw[e6] at g6
  simp[o6,ci] at g6
  obtain⟨x6,q6,_⟩:=DataW.trod_int hi g6
  simp at q6
  rw[e7] at g7
  simp[o7,ci] at g7
  obtain⟨x7,q7,_⟩:=DataW.trod_int hi g7
  simp at q7
  subst q0 q1 q2 q3 q4 q5 q6 q7
  exact⟨(x0,x1,x2,x3,x4,x5,x6,x7),rfl⟩
theorem open_rows{H:Type}{enc:TypeId×Value→H}{P:Program}{w:World}{base:Nat}{spare:Nat→Bool}{held:Bool}{t e i:TypeId}{f0 f1 f2 f3 f4 f5 f6 f7:Field}{fuel:Nat}{a:Option Addr}{len cap:Nat}{x:DataW H×List MemPlace}
  (ht:P.underlying t=some (.slice e))(he:P.underlying e=some (.struct #[f0,f1,f2,f3,f4,f5,f6,f7]))(hc:(P.cellsOf e==8&&P.cellsOf i==1&&f0.type==i&&f1.type==i&&f2.type==i&&f3.type==i&&f4.type==i&&f5.type==i&&f6.type==i&&f7.type==i&&f0.offset==0&&f1.offset==1&&f2.offset==2&&f3.offset==3&&f4.offset==4&&f5.offset==5&&f6.offset==6&&f7.offset==7)=true)(hi:P.underlying i=some (.int .i64))
  (h:DataW.trod enc P w base spare held fuel t (Value.slice a len cap).cells.toList=some x):∃ps:List T8,ps.length=len∧len≤9223372036854775807∧Reads8 w a ps:=by
 have ce:P.cellsOf e=8:=by
  simp at hc
  exact hc.1.1.1.1.1.1.1.1.1.1.1.1.1.1.1.1.1
 rcases Deep.open_slice ht h with⟨hcs,_⟩|⟨b,l,c,m,n,D,Pl,hcs,_,hlc,hm,hmm,_,hx⟩
 ·simp[Value.cells] at hcs
  obtain⟨rfl,rfl,rfl⟩:=hcs
  exact⟨[],rfl,by omega,.inl rfl⟩
 ·simp[Value.cells] at hcs
  obtain⟨rfl,rfl,rfl⟩:=hcs
  have hlm:len≤m:=by rw[hmm];split<;>omega
  have each:∀j,j<len→∃p:T8,w.cell? (b.add (j*8))=some (.int .i64 p.1)∧w.cell? (b.add (j*8+1))=some (.int .i64 p.2.1)∧w.cell? (b.add (j*8+2))=some (.int .i64 p.2.2.1)∧w.cell? (b.add (j*8+3))=some (.int .i64 p.2.2.2.1)∧w.cell? (b.add (j*8+4))=some (.int .i64 p.2.2.2.2.1)∧w.cell? (b.add (j*8+5))=some (.int .i64 p.2.2.2.2.2.1)∧w.cell? (b.add (j*8+6))=some (.int .i64 p.2.2.2.2.2.2.1)∧w.cell? (b.add (j*8+7))=some (.int .i64 p.2.2.2.2.2.2.2):=by
   intro j hj
   obtain⟨cs',h1,h2⟩:=hx j (by omega)
   rw[ce] at h1
   obtain⟨_,hlen,hcell⟩:=World.cells?_some h1
   obtain⟨p,rfl⟩:=cells_of he hc hi h2
   have d0:=hcell 0 (by omega)
   have d1:=hcell 1 (by omega)
   have d2:=hcell 2 (by omega)
   have d3:=hcell 3 (by omega)
   have d4:=hcell 4 (by omega)
   have d5:=hcell 5 (by omega)
   have d6:=hcell 6 (by omega)
   have d7:=hcell 7 (by omega)
   rw[Deep.add_add] at d0 d1 d2 d3 d4 d5 d6 d7
   exact⟨p,by simpa using d0,by simpa using d1,by simpa using d2,by simpa using d3,by simpa using d4,by simpa using d5,by simpa using d6,by simpa using d7⟩
  obtain⟨q,hq⟩:=Deep.choose_lt each
  refine⟨(List.range len).map q,by simp,by unfold maxLen at hm;omega,?_⟩
  by_cases z:len=0
  ·exact .inl (by simp[z])
  ·obtain⟨blk,off,spot⟩:=b
   have c0:=(hq 0 (by omega)).1
   have hspot:spot=none:=by simpa[Addr.add] using World.cell?_spot c0
   subst hspot
   have c0':w.cell? ⟨blk,off,none⟩=some (.int .i64 (q 0).1):=by simpa[Addr.add] using c0
   refine .inr ⟨blk,off,rfl,World.block_lt_of_cell? w _ c0',fun j hj=>?_⟩
   have hj':j<len:=by simpa using hj
   obtain⟨p0,p1,p2,p3,p4,p5,p6,p7⟩:=hq j hj'
   rw[Addr.add_lit] at p0 p1 p2 p3 p4 p5 p6 p7
   have hg:el8 ((List.range len).map q) j=q j:=by simp[List.getD,hj']
   rw[hg]
   exact⟨p0,by rw[Nat.add_assoc];exact p1,by rw[Nat.add_assoc];exact p2,by rw[Nat.add_assoc];exact p3,by rw[Nat.add_assoc];exact p4,by rw[Nat.add_assoc];exact p5,by rw[Nat.add_assoc];exact p6,by rw[Nat.add_assoc];exact p7⟩
end Opens8
end Go.Proofs.YtlbgfdpcgpijhaaGreat
