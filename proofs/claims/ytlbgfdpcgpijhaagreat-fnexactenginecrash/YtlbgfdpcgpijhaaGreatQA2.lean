/- Texts of one proof. -/
import Derived.Test.YtlbgfdpcgpijhaaGreatQA1
import Derived.Deep.Strs
open Go.ChangeShapes Go.WideShapes Go.ChangeAt Go.RowKit
set_option linter.unusedVariables false
set_option linter.unusedSimpArgs false
set_option maxRecDepth 100000
set_option maxHeartbeats 32000000
namespace Go.Proofs.YtlbgfdpcgpijhaaGreat
namespace OpensF14
open Fil14
def FitF(ps:List TF):Prop:=∀p∈ps,p.2.1.size≤9223372036854775807∧p.2.2.size≤9223372036854775807
theorem open_files{H:Type}{enc:TypeId×Value→H}{P:Program}{w:World}{base:Nat}{spare:Nat→Bool}{held:Bool}{t e i s:TypeId}{f0 f1 f2:Field}{fuel:Nat}{a:Option Addr}{len cap:Nat}{x:DataW H×List MemPlace}
  (ht:P.underlying t=some (.slice e))(he:P.underlying e=some (.struct #[f0,f1,f2]))
  (hc:(P.cellsOf e==3&&P.cellsOf i==1&&f0.type==i&&f1.type==s&&f2.type==s&&P.cellsOf s==1&&f0.offset==0&&f1.offset==1&&f2.offset==2)=true)(hi:P.underlying i=some (.int .i64))(hs:P.underlying s=some .string)
  (h:DataW.trod enc P w base spare held fuel t (Value.slice a len cap).cells.toList=some x):∃ps:List TF,ps.length=len∧len≤9223372036854775807∧ReadsF w a ps∧FitF ps:=by
 simp at hc
 obtain⟨⟨⟨⟨⟨⟨⟨⟨ce,ci⟩,e0⟩,e1⟩,e2⟩,cs⟩,o0⟩,o1⟩,o2⟩:=hc
 rcases Deep.open_slice ht h with⟨hcs,_⟩|⟨b,l,c,m,n,D,Pl,hcs,_,hlc,hm,hmm,_,hx⟩
 ·simp[Value.cells] at hcs
  obtain⟨rfl,rfl,rfl⟩:=hcs
  exact⟨[],rfl,by omega,.inl rfl,fun p hp=>by simp at hp⟩
 ·simp[Value.cells] at hcs
  obtain⟨rfl,rfl,rfl⟩:=hcs
  have hlm:len≤m:=by rw[hmm];split<;>omega
  have each:∀j,j<len→∃p:TF,w.cell? (b.add (j*3))=some (.int .i64 p.1)∧w.cell? (b.add (j*3+1))=some (.string p.2.1)∧w.cell? (b.add (j*3+2))=some (.string p.2.2)∧(p.2.1.size≤9223372036854775807∧p.2.2.size≤9223372036854775807):=by
   intro j hj
   obtain⟨cs',h1,h2⟩:=hx j (by omega)
   rw[ce] at h1
   obtain⟨_,hlen,hcell⟩:=World.cells?_some h1
   obtain⟨y0,y1,y2,k,_,_,g0,g1,g2⟩:=Deep.trod_struct3 he h2
   match cs',hlen with
   |[v0,v1,v2],_=>
    rw[e0] at g0
    rw[e1] at g1
    rw[e2] at g2
    simp[o0,o1,o2,ci,cs] at g0 g1 g2
    obtain⟨x0,q0,_⟩:=DataW.trod_int hi g0
    obtain⟨x1,q1,_,m1⟩:=DataW.trod_string hs g1
    obtain⟨x2,q2,_,m2⟩:=DataW.trod_string hs g2
    simp at q0 q1 q2
    subst q0 q1 q2
    have d0:=hcell 0 (by omega)
    have d1:=hcell 1 (by omega)
    have d2:=hcell 2 (by omega)
    rw[Deep.add_add] at d0 d1 d2
    exact⟨(x0,x1,x2),by simpa using d0,by simpa using d1,by simpa using d2,by unfold maxLen at m1;exact m1,by unfold maxLen at m2;exact m2⟩
  obtain⟨q,hq⟩:=Deep.choose_lt each
  refine⟨(List.range len).map q,by simp,by unfold maxLen at hm;omega,?_,fun p hp=>by
   obtain⟨j,hj,rfl⟩:=List.mem_map.1 hp
   exact(hq j (by simpa using hj)).2.2.2⟩
  by_cases z:len=0
  ·exact .inl (by simp[z])
  ·obtain⟨blk,off,spot⟩:=b
   have c0:=(hq 0 (by omega)).1
   have hspot:spot=none:=by simpa[Addr.add] using World.cell?_spot c0
   subst hspot
   have c0':w.cell? ⟨blk,off,none⟩=some (.int .i64 (q 0).1):=by simpa[Addr.add] using c0
   refine .inr ⟨blk,off,rfl,World.block_lt_of_cell? w _ c0',fun j hj=>?_⟩
   have hj':j<len:=by simpa using hj
   obtain⟨p0,p1,p2,_⟩:=hq j hj'
   rw[Addr.add_lit] at p0 p1 p2
   have hg:elF ((List.range len).map q) j=q j:=by simp[List.getD,hj']
   rw[hg]
   exact⟨p0,by rw[Nat.add_assoc];exact p1,by rw[Nat.add_assoc];exact p2⟩
theorem struct_cells2{H:Type}{enc:TypeId×Value→H}{P:Program}{w:World}{base:Nat}{spare:Nat→Bool}{held:Bool}{e:TypeId}{f0 f1:Field}{fuel:Nat}{cs:List Value}{x:DataW H×List MemPlace}
  (he:P.underlying e=some (.struct #[f0,f1]))(hc:(P.cellsOf e==2&&P.cellsOf f0.type==1&&P.cellsOf f1.type==1&&f0.offset==0&&f1.offset==1)=true)
  (h:DataW.trod enc P w base spare held fuel e cs=some x):∃v0 v1 k x0 x1,cs=[v0,v1]∧DataW.trod enc P w base spare held k f0.type [v0]=some x0∧DataW.trod enc P w base spare held k f1.type [v1]=some x1:=by
 simp at hc
 obtain⟨⟨⟨⟨ce,k0⟩,k1⟩,o0⟩,o1⟩:=hc
 obtain⟨xs,k,_,_,hl,hlen,hf⟩:=DataW.trod_struct he h
 rw[ce] at hl
 match xs,hlen,cs,hl with
 |[y0,y1],_,[v0,v1],_=>
  have g0:=hf 0 f0 rfl
  have g1:=hf 1 f1 rfl
  simp[o0,k0] at g0
  simp[o1,k1] at g1
  exact⟨v0,v1,k,_,_,rfl,g0,g1⟩
end OpensF14
namespace DiskH14
open Fil14 OpensF14
theorem one_more(w:World)(o:Obj):Below w.heap.size w (w.alloc o):=(Below.refl _ _).alloc (Nat.le_refl _) _
def sumZ:List TF→Nat
 |[]=>0
 |p::r=>p.2.1.size+p.2.2.size+sumZ r
theorem sumZ_append(ps qs:List TF):sumZ (ps++qs)=sumZ ps+sumZ qs:=by
 induction ps with
 |nil=>simp[sumZ]
 |cons p r ih=>simp only[List.cons_append,sumZ,ih];omega
theorem sumZ_next{ps:List TF}{k:Nat}(h:k<ps.length):sumZ (ps.take (k+1))=sumZ (ps.take k)+((elF ps k).2.1.size+(elF ps k).2.2.size):=by
 rw[List.take_succ_eq_append_getElem h,sumZ_append]
 simp[sumZ,List.getD,h]
theorem fit_el{ps:List TF}(h:FitF ps){k:Nat}(hk:k<ps.length):(elF ps k).2.1.size≤9223372036854775807∧(elF ps k).2.2.size≤9223372036854775807:=by
 have:=h (ps[k]) (List.getElem_mem _)
 simpa[List.getD,hk] using this
theorem szF(w:World)(x:Int)(s t:ByteArray)(left:Int)(h0:0≤left)(h1:left≤1048576)(f1:s.size≤9223372036854775807)(f2:t.size≤9223372036854775807):
  Calls Tryz.prog 129 #[.agg #[.int .i64 x,.string s,.string t],.int .i64 left] w fun e w'=>∃r,e= .returned (.int .i64 r)∧(r= -1∨(0≤r∧r+s.size+t.size=left))∧Below w.heap.size w w':=by
 have B0:=zh (one_more w (.cells #[.int .i64 x,.string s,.string t] 153))
 generalize hn:s.size=n at *
 generalize hm:t.size=m at *
 have HN:=zh hn
 have HM:=zh hm
 by_cases q:left-(n:Int)<0
 ·go_enter Tryz.func129,Tryz.ntmps129
  go_wp2
  go_ret
  exact⟨-1,rfl,.inl rfl,zu B0⟩
 by_cases q2:left-(n:Int) -(m:Int)<0
 ·go_enter Tryz.func129,Tryz.ntmps129
  go_wp2
  go_ret
  exact⟨-1,rfl,.inl rfl,zu B0⟩
 ·go_enter Tryz.func129,Tryz.ntmps129
  go_wp2
  go_ret
  exact⟨left-n-m,rfl,.inr ⟨by omega,by omega⟩,zu B0⟩
theorem szFS(w:World)(a:Option Addr)(len cap:Nat)(ps:List TF)(hl:ps.length=len)(hx:len≤9223372036854775807)(hr:ReadsF w a ps)(hf:FitF ps):
  Calls Tryz.prog 60 #[.slice a len cap,.int .i64 1048576] w fun e w'=>∃r,e= .returned (.int .i64 r)∧(r= -1∨((0≤r∧r≤1048576)∧len≤1048576∧sumZ ps≤1048576))∧Below w.heap.size w w':=by
 have B0:=zh (Below.refl w.heap.size w)
 have R:=zh hr
 have HF:=zh hf
 have HL:=zh hl
 clear hr hf
 by_cases q:(1048576:Int) -(len:Int)<0
 ·clear hl
  go_enter Tryz.func60,Tryz.ntmps60
  go_wp2
  go_ret
  exact⟨-1,rfl,.inl rfl,zu B0⟩
 have l20:len≤1048576:=by omega
 go_enter Tryz.func60,Tryz.ntmps60
 go_wp2
 go_loopw [1,5] (fun m i wr=>∃(k:Nat) (left:Int),k≤len∧i= .int .i64 k∧m= .int .i64 left∧0≤left∧left≤1048576∧Hid (left+len+sumZ (ps.take k)=1048576)∧Hid (Below w.heap.size w wr)) (fun _ i _=>len-(intOf i).toNat)
 case atStart=>exact⟨0,1048576-(len:Int),by omega,rfl,rfl,by omega,by omega,zh (by simp[sumZ]),B0⟩
 case round=>
  clear B0
  obtain⟨k,left,hk,rfl,rfl,l0,l1,HS,HB⟩:=hrel
  by_cases t:k<len
  ·have tk:k<ps.length:=by omega
   have NX:=zh (sumZ_next tk)
   have F:=fit_el (zu HF) tk
   rcases(zu R).below (zu HB|>.mono (Nat.le_refl _)) with h|⟨b,off,rfl,lb,hc⟩
   ·omega
   obtain⟨d0,d1,d2⟩:=hc k tk
   have SF:=zh (fun u=>szF u (elF ps k).1 (elF ps k).2.1 (elF ps k).2.2 left l0 l1 F.1 F.2)
   have kt:(k:Int)<len:=by omega
   clear F hc
   generalize (elF ps k).1=y0 at *
   generalize (elF ps k).2.1=y1 at *
   generalize (elF ps k).2.2=y2 at *
   go_wp2_with fail
   refine((zu SF) _).mono ?_
   rintro e u ⟨r,rfl,hr,bb⟩
   have B1:=zh ((zu HB).trans (bb.mono (zu HB).size))
   clear bb SF
   rcases hr with rfl|⟨r0,r1⟩
   ·go_wp2
    go_ret
    exact⟨-1,rfl,.inl rfl,zu B1⟩
   ·have rn:¬r<0:=by omega
    have R1:=zh r1
    have L0:=zh (And.intro l0 l1)
    clear r1 l0 l1
    go_wp2
    go_roundw
    case rel=>exact⟨k+1,r,by omega,by go_num,rfl,r0,by have:=zu R1;have:=zu L0;omega,zh (by have:=zu R1;have:=zu HS;rw[zu NX];omega),B1⟩
    case measure=>simp[intOf];omega
  ·have e:k=len:=by omega
   subst e
   have S:=zu HS
   rw[←hl,List.take_length] at S
   have SS:=zh S
   have L0:=zh (And.intro l0 l1)
   clear S
   go_wp2
   go_ret
   exact⟨left,rfl,.inr ⟨zu L0,l20,by have:=zu SS;have:=zu L0;omega⟩,zu HB⟩
theorem szD(w:World)(room:Int)(a:Option Addr)(len cap:Nat)(ps:List TF)(hl:ps.length=len)(hx:len≤9223372036854775807)(hr:ReadsF w a ps)(hf:FitF ps):
  Calls Tryz.prog 23 #[.agg #[.int .i64 room,.slice a len cap],.int .i64 1048576] w fun e w'=>∃r,e= .returned (.int .i64 r)∧(r= -1∨((0≤r∧r≤1048576)∧len≤1048576∧sumZ ps≤1048576))∧Below w.heap.size w w':=by
 have b0:=one_more w (.cells #[.int .i64 room,.slice a len cap] 24)
 have S:=zh (szFS _ a len cap ps hl hx (hr.below b0) hf)
 have B0:=zh b0
 clear b0 hr hf
 go_enter Tryz.func23,Tryz.ntmps23
 go_wp2_with fail
 refine(zu S).mono ?_
 rintro e u ⟨r,rfl,h,bb⟩
 have B1:=zh ((zu B0).trans (bb.mono (zu B0).size))
 have H:=zh h
 clear bb S
 rcases h with rfl|⟨r0,_⟩
 ·go_wp2
  go_ret
  exact⟨-1,rfl,.inl rfl,zu B1⟩
 ·have rn:¬r<0:=by omega
  go_wp2
  go_ret
  exact⟨r,rfl,zu H,zu B1⟩
end DiskH14
end Go.Proofs.YtlbgfdpcgpijhaaGreat
