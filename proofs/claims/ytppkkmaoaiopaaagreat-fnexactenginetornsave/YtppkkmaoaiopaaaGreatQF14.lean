/- Lemmas. -/
import Derived.Test.YtppkkmaoaiopaaaGreatQF11
open Go.ChangeShapes Go.WideShapes Go.ChangeAt Go.RowKit
set_option linter.unusedVariables false
set_option linter.unusedSimpArgs false
set_option maxRecDepth 100000
set_option maxHeartbeats 32000000
namespace Go.Proofs.YtppkkmaoaiopaaaGreat
namespace SNums13
open BMem Bks SPuts11
open IBalsFit (St one_more)
open Bals (T3 el3)
open Tup5 (T5 el5)
open Tup8 (T8 el8)
def AtI(w:World)(g:Nat)(xs:List Int):Prop:=∀i,i<xs.length→w.cell? ⟨g,i,none⟩=some (.int .i64 (xs.getD i 0))
theorem wp_catI(u:World){ops:Array Oper}{rest:List Oper}{o:Oper}{a:Act}{Q:Exit→Act→World→Prop}(hgd:o.guard=none)(s x:Operand)
  (ho:o.op= .call {callee:= .builtin .append,args:= #[s,x],argTypes:= #[150,150]})(base g n cap m:Nat)(xs ys:List Int)(vb c:Nat)
  (hs:a.eval s= .slice (some ⟨g,0,none⟩) n cap)(hx:a.eval x= .slice (some ⟨vb,0,none⟩) m c)(hown:Ints.Own u base g n cap xs)(hl:ys.length=m)(hv:AtI u vb ys)(hn:n+m≤100000000)(hb:base≤u.heap.size)
  (h:∀g' c' w',Ints.Own w' base g' (n+m) c' (xs++ys)→u.grownBy w' (some g)→(g'=g∨g'=u.heap.size)→wpList Tryz.prog ops Q rest (a.put o.dst (.slice (some ⟨g',0,none⟩) (n+m) c')) w'):wpList Tryz.prog ops Q (o::rest) a u:=by
 obtain⟨i0,hi,hz0,hz1,hz2⟩:=info_parts Ints.info3
 refine wpList_append_own_at u hgd s x 150 ho base 3 i0 (.int .i64 0) 1 8 Tryz.underlying150 hi hz0 hz1 hz2 rfl (by decide) _ n _ hs hown ⟨vb,0,none⟩ m c (ys.map (Value.int .i64)) hx (by simp[hl]) (fun j v hj=>by
  have hj':j<ys.length:=by
   have:=(List.getElem?_eq_some_iff.1 hj).1
   simpa using this
  have:=hv j hj'
  rw[Addr.add_lit,Nat.zero_add,this]
  rw[←hj]
  simp[List.getD,hj']) (by intro u hu;obtain⟨y,_,rfl⟩:=List.mem_map.1 hu;simp[Value.oneCell']) (by unfold maxLen;omega) (by omega) hb ?_
 intro v' w' own' gr' nil' loc'
 obtain⟨g',c',rfl,o'⟩:=own_of_rowI (n':=n+m) (xs:=xs++ys) own' rfl (by simp) (by rw[nil'];simp)
 exact h g' c' w' o' gr' (by simpa[Value.ownBlock] using loc')
theorem step_catI(u:World){ops:Array Oper}{o:Oper}{a:Act}{K:Act→World→Prop}{Q:Exit→Act→World→Prop}{E:Prop}(hgd:o.guard=none)(s x:Operand)
  (ho:o.op= .call {callee:= .builtin .append,args:= #[s,x],argTypes:= #[150,150]})(base g n cap m:Nat)(xs ys:List Int)(vb c:Nat)
  (hs:a.eval s= .slice (some ⟨g,0,none⟩) n cap)(hx:a.eval x= .slice (some ⟨vb,0,none⟩) m c)(hown:Ints.Own u base g n cap xs)(hl:ys.length=m)(hv:AtI u vb ys)(hn:n+m≤100000000)(hb:base≤u.heap.size)
  (h:∀g' c' w',Ints.Own w' base g' (n+m) c' (xs++ys)→u.grownBy w' (some g)→(g'=g∨g'=u.heap.size)→K (a.put o.dst (.slice (some ⟨g',0,none⟩) (n+m) c')) w'):if Region.wanted o (yielded ops a.tmps)=true then Oper.wp Tryz.prog o a u K Q else E:=by
 obtain⟨i0,hi,hz0,hz1,hz2⟩:=info_parts Ints.info3
 have hw:Region.wanted o (yielded ops a.tmps)=true:=by simp[Region.wanted,hgd]
 rw[if_pos hw]
 obtain⟨v',w',hr,own',gr',nil',loc'⟩:=run_append_own_at (P:=Tryz.prog) u base 150 o.type 3 i0 (.int .i64 0) 1 8 Tryz.underlying150 hi hz0 hz1 hz2 rfl (by decide) (.slice (some ⟨g,0,none⟩) n cap) n (xs.map (Value.int .i64)) hown ⟨vb,0,none⟩ m c (ys.map (Value.int .i64)) (by simp[hl]) (fun j v hj=>by
  have hj':j<ys.length:=by
   have:=(List.getElem?_eq_some_iff.1 hj).1
   simpa using this
  have:=hv j hj'
  rw[Addr.add_lit,Nat.zero_add,this]
  rw[←hj]
  simp[List.getD,hj']) (by intro u hu;obtain⟨y,_,rfl⟩:=List.mem_map.1 hu;simp[Value.oneCell']) (by unfold maxLen;omega) (by omega) hb
 unfold Oper.wp execOp
 simp only[ho,resolve,invoke,builtin,Sem.run_bind,Sem.run_pure,Result.andThen_ok,List.map_toArray,List.map_cons,List.map_nil,hs,hx,hr]
 obtain⟨g',c',rfl,o'⟩:=own_of_rowI (n':=n+m) (xs:=xs++ys) own' rfl (by simp) (by rw[nil'];simp)
 exact h g' c' w' o' gr' (by simpa[Value.ownBlock] using loc')
theorem lit1(w:World)(a:Int):AtI (w.alloc (.cells #[.int .i64 a] 3)) w.heap.size [a]:=by
 intro i hi
 have:i=0:=by simpa using hi
 subst this
 simp
theorem lit2(w:World)(a b:Int):AtI (w.alloc (.cells #[.int .i64 a,.int .i64 b] 3)) w.heap.size [a,b]:=by
 intro i hi
 have:i=0∨i=1:=by simp at hi;omega
 rcases this with rfl|rfl<;>simp
theorem lit3(w:World)(a b c:Int):AtI (w.alloc (.cells #[.int .i64 a,.int .i64 b,.int .i64 c] 3)) w.heap.size [a,b,c]:=by
 intro i hi
 have:i=0∨i=1∨i=2:=by simp at hi;omega
 rcases this with rfl|rfl|rfl<;>simp
theorem lit5(w:World)(a b c d e:Int):AtI (w.alloc (.cells #[.int .i64 a,.int .i64 b,.int .i64 c,.int .i64 d,.int .i64 e] 3)) w.heap.size [a,b,c,d,e]:=by
 intro i hi
 have:i=0∨i=1∨i=2∨i=3∨i=4:=by simp at hi;omega
 rcases this with rfl|rfl|rfl|rfl|rfl<;>simp
theorem lit8(w:World)(a b c d e f g h:Int):AtI (w.alloc (.cells #[.int .i64 a,.int .i64 b,.int .i64 c,.int .i64 d,.int .i64 e,.int .i64 f,.int .i64 g,.int .i64 h] 3)) w.heap.size [a,b,c,d,e,f,g,h]:=by
 intro i hi
 have:i=0∨i=1∨i=2∨i=3∨i=4∨i=5∨i=6∨i=7:=by simp at hi;omega
 rcases this with rfl|rfl|rfl|rfl|rfl|rfl|rfl|rfl<;>simp
def row2(p:Int×Int):List Int:=[p.1,p.2]
def row3(p:T3):List Int:=[p.1,p.2.1,p.2.2+1000000000000000]
def row5(p:T5):List Int:=[p.1,p.2.1,p.2.2.1,p.2.2.2.1,p.2.2.2.2]
def row8(p:T8):List Int:=[p.1,p.2.1,p.2.2.1,p.2.2.2.1,p.2.2.2.2.1,p.2.2.2.2.2.1,p.2.2.2.2.2.2.1,p.2.2.2.2.2.2.2]
def nums(b:Bk):List Int:=[(b.ac.length:Int)]++b.ac.flatMap row2++[(b.ic.length:Int)]++b.ic.flatMap row2++[(b.bs.length:Int)]++b.bs.flatMap row3++[(b.ls.length:Int)]++b.ls.flatMap row5++[(b.ts.length:Int)]++b.ts.flatMap row8++[b.lot]
theorem flat_more{α:Type}{ps:List α}{f:α→List Int}{k:Nat}(d:α)(h:k<ps.length):(ps.take (k+1)).flatMap f=(ps.take k).flatMap f++f (ps.getD k d):=by
 rw[List.take_succ_eq_append_getElem h,List.flatMap_append]
 simp[List.getD,h]
theorem sNums(w:World)(x:Bx)(h:Rd w x)(ha:∀i,i<x.b.bs.length→-1000000000000000≤(el3 x.b.bs i).2.2∧(el3 x.b.bs i).2.2≤1000000000000000):
  Calls Tryz.prog 135 #[.agg #[.slice (some ⟨x.ga,0,none⟩) x.b.ac.length x.ca,.slice (some ⟨x.gi,0,none⟩) x.b.ic.length x.ci,.slice (some ⟨x.gb,0,none⟩) x.b.bs.length x.cb,.slice (some ⟨x.gl,0,none⟩) x.b.ls.length x.cl,.slice (some ⟨x.gt,0,none⟩) x.b.ts.length x.ct,.int .i64 x.b.lot]] w fun e w'=>∃g c,e= .returned (.slice (some ⟨g,0,none⟩) (nums x.b).length c)∧Ints.Own w' w.heap.size g (nums x.b).length c (nums x.b)∧Below w.heap.size w w':=by
 have S0:=zh (St.start h 44)
 have XB:=zh (show((x.ga<w.heap.size∧x.gi<w.heap.size)∧x.gb<w.heap.size) from⟨⟨h.la,h.li⟩,h.lb⟩)
 have na:=h.na
 have ni:=h.ni
 have nb:=h.nb
 have nl:=h.nl
 have nt:=h.nt
 have HA:=zh ha
 clear h ha
 go_enter Tryz.func135,Tryz.ntmps135
 have s0:=(zu S0).c.c0
 go_wp2
 clear s0
 generalize hW:(w.alloc (.cells #[.slice (some ⟨x.ga,0,none⟩) x.b.ac.length x.ca,.slice (some ⟨x.gi,0,none⟩) x.b.ic.length x.ci,.slice (some ⟨x.gb,0,none⟩) x.b.bs.length x.cb,.slice (some ⟨x.gl,0,none⟩) x.b.ls.length x.cl,.slice (some ⟨x.gt,0,none⟩) x.b.ts.length x.ct,.int .i64 x.b.lot] 44))=W0 at *
 have ws:W0.heap.size=w.heap.size+1:=by rw[←hW];simp
 have O0:=zh (show Ints.Own (W0.alloc (.cells #[.int .i64 x.b.ac.length] 3)) W0.heap.size (w.heap.size+1) 1 1 [(x.b.ac.length:Int)] from by rw[←ws];exact World.ownsRow_lit W0 #[.int .i64 x.b.ac.length] 1 (Nat.le_refl _) (by decide) rfl)
 have B0:=zh (one_more W0 (.cells #[.int .i64 x.b.ac.length] 3))
 clear hW
 generalize hA:[(x.b.ac.length:Int)]=A0 at *
 have HA0:=zh hA
 clear hA
 go_loopw [3,4] (fun l i wr=>∃(k g c n:Nat),i= .int .i64 k∧k≤x.b.ac.length∧l= .slice (some ⟨g,0,none⟩) n c∧n≤1+2*k∧Hid (Ints.Own wr W0.heap.size g n c (A0++(x.b.ac.take k).flatMap row2))∧Hid (Below W0.heap.size W0 wr)) (fun _ i _=>x.b.ac.length-(intOf i).toNat)
 case atStart=>exact⟨0,_,_,_,rfl,by omega,rfl,by omega,zh (by simpa using zu O0),B0⟩
 case round=>
  clear O0 B0
  obtain⟨k,g,c,n,rfl,hk,rfl,nk,HO,HB⟩:=hrel
  have bs:=(zu HB).size
  have og:=(zu HO).lt
  have S1:=zh ((zu S0).step (zu HB))
  have cf:=(zu S1).c.c0
  by_cases t:k<x.b.ac.length
  ·have kt:(k:Int)<x.b.ac.length:=by omega
   have d:=(zu S1).r.ra k t
   have lg:=(zu S1).r.la
   have NX:=zh (flat_more (f:=row2) ((0,0):Int×Int) t)
   change Hid (_=_++row2 (Chart.el x.b.ac k)) at NX
   change wr.cell? ⟨x.ga,k*2,none⟩=some (.int .i64 (Chart.el x.b.ac k).1)∧wr.cell? ⟨x.ga,k*2+1,none⟩=some (.int .i64 (Chart.el x.b.ac k).2) at d
   generalize Chart.el x.b.ac k=p at *
   obtain⟨p0,p1⟩:=p
   obtain⟨d0,d1⟩:=d
   have K0:wr.cell? ⟨w.heap.size,0,none⟩=some (.slice (some ⟨x.ga,0,none⟩) x.b.ac.length x.ca)∧wr.cell? ⟨x.ga,k*2,none⟩=some (.int .i64 p0)∧wr.cell? ⟨x.ga,k*2+1,none⟩=some (.int .i64 p1):=⟨cf,d0,d1⟩
   go_wp2_with fail
   refine wp_region_held_drew (S:=(fun w'=>w'.cell? ⟨w.heap.size,0,none⟩=some (.slice (some ⟨x.ga,0,none⟩) x.b.ac.length x.ca)∧w'.cell? ⟨x.ga,k*2,none⟩=some (.int .i64 p0)∧w'.cell? ⟨x.ga,k*2+1,none⟩=some (.int .i64 p1))) (by kernel_rfl) K0 (fun hHeld=>?_)
   refine zT 0 22 (.slice (some ⟨g,0,none⟩) n c) rfl hHeld ?_
   refine zT 1 23 (.pointer (some ⟨w.heap.size,0,none⟩)) rfl hHeld ?_
   refine zT 2 24 (.slice (some ⟨x.ga,0,none⟩) x.b.ac.length x.ca) rfl hHeld ?_
   refine zT 3 25 (.int .i64 k) rfl hHeld ?_
   refine zT 4 26 (.pointer (some ⟨x.ga,k*2,none⟩)) rfl hHeld ?_
   refine zT 5 27 (.pointer (some ⟨x.ga,k*2,none⟩)) rfl hHeld ?_
   refine zT 6 28 (.int .i64 p0) rfl hHeld ?_
   refine zT 7 29 (.pointer (some ⟨w.heap.size,0,none⟩)) rfl hHeld ?_
   refine zT 8 30 (.slice (some ⟨x.ga,0,none⟩) x.b.ac.length x.ca) rfl hHeld ?_
   refine zT 9 31 (.int .i64 k) rfl hHeld ?_
   refine zT 10 32 (.pointer (some ⟨x.ga,k*2,none⟩)) rfl hHeld ?_
   refine zT 11 33 (.pointer (some ⟨x.ga,k*2+1,none⟩)) rfl hHeld ?_
   refine zT 12 34 (.int .i64 p1) rfl hHeld ?_
   try simp only[Act.put,zA,zB,zC]
   have KB:(wr.drew.alloc (.cells #[.int .i64 p0,.int .i64 p1] 3)).cell? ⟨w.heap.size,0,none⟩=some (.slice (some ⟨x.ga,0,none⟩) x.b.ac.length x.ca)∧(wr.drew.alloc (.cells #[.int .i64 p0,.int .i64 p1] 3)).cell? ⟨x.ga,k*2,none⟩=some (.int .i64 p0)∧(wr.drew.alloc (.cells #[.int .i64 p0,.int .i64 p1] 3)).cell? ⟨x.ga,k*2+1,none⟩=some (.int .i64 p1):=⟨((one_more wr.drew (.cells #[.int .i64 p0,.int .i64 p1] 3)).cell (p:=⟨w.heap.size,0,none⟩) (show w.heap.size<wr.heap.size from(zu S1).s)).trans cf,((one_more wr.drew (.cells #[.int .i64 p0,.int .i64 p1] 3)).cell (p:=⟨x.ga,k*2,none⟩) (show x.ga<wr.heap.size from lg)).trans d0,((one_more wr.drew (.cells #[.int .i64 p0,.int .i64 p1] 3)).cell (p:=⟨x.ga,k*2+1,none⟩) (show x.ga<wr.heap.size from lg)).trans d1⟩
   refine zR 13 rfl (fun K hK=>?_)
   go_simp
   refine hK.out _ _ KB (fun hHeld=>?_)
   clear hK K
   try simp only[Act.put,zA,zB,zC]
   refine zR 14 rfl (fun K hK=>?_)
   refine step_catI _ (by rfl) _ _ (by rfl) W0.heap.size g n c 2 _ [p0,p1] wr.drew.heap.size 2 (by rfl) (by rfl) (by exact own_allocI (zu HO) _) (by rfl) (by exact lit2 wr.drew p0 p1) (by omega) (Nat.le_trans (show W0.heap.size≤wr.drew.heap.size from bs) (by simp)) ?_
   intro g9 c9 u9 o9 gr9 loc9
   have K9:u9.cell? ⟨w.heap.size,0,none⟩=some (.slice (some ⟨x.ga,0,none⟩) x.b.ac.length x.ca)∧u9.cell? ⟨x.ga,k*2,none⟩=some (.int .i64 p0)∧u9.cell? ⟨x.ga,k*2+1,none⟩=some (.int .i64 p1):=⟨gr9.cell KB.1 (fun e=>by injection e with e;simp at e;have:=(zu S0).s;omega),gr9.cell KB.2.1 (fun e=>by injection e with e;simp at e;have:=(zu XB).1.1;omega),gr9.cell KB.2.2 (fun e=>by injection e with e;simp at e;have:=(zu XB).1.1;omega)⟩
   have O9:=zh o9
   have B9:=zh (((zu HB).drew.alloc (show W0.heap.size≤wr.heap.size from bs) (.cells #[.int .i64 p0,.int .i64 p1] 3)).grown gr9 (Nat.le_trans (show W0.heap.size≤wr.drew.heap.size from bs) (by simp)) (fun j hj=>by cases hj;exact og.1))
   clear o9 gr9 loc9
   refine hK.out _ _ K9 (fun hHeld=>?_)
   clear hK K
   refine zT 15 3 (.slice (some ⟨g9,0,none⟩) (n+2) c9) rfl hHeld ?_
   try simp only[Act.put,zA,zB,zC]
   refine wpAnyH_done (by kernel_rfl) ?_ _
   go_wp2
   go_roundw
   case rel=>exact⟨k+1,g9,c9,n+2,by go_num,by omega,rfl,by omega,zh (by rw[zu NX];first|exact zu O9|(rw[ws];exact zu O9)|(rw[←List.append_assoc];exact zu O9)|(rw[←List.append_assoc,ws];exact zu O9)),B9⟩
   case measure=>simp[intOf];omega
  ·have e:k=x.b.ac.length:=by omega
   subst e
   have O:=zu HO
   rw[List.take_length] at O
   have HO:=zh O
   clear O hk t
   have cg:=(zu S1).c.c1
   go_wp2_with (first|(at_builtin;refine wp_catI _ rfl _ _ rfl W0.heap.size g n c 1 _ [(x.b.ic.length:Int)] _ 1 rfl rfl (own_allocI (zu HO) _) rfl (lit1 _ _) (by omega) (by simp;omega) ?_)|go_in)
   intro g9 c9 u9 o9 gr9 loc9
   have O1:=zh (show Ints.Own u9 W0.heap.size g9 (n+1) c9 (A0++x.b.ac.flatMap row2++[(x.b.ic.length:Int)]) from by first|exact o9|(rw[List.append_assoc];exact o9)|(rw[ws];exact o9)|(rw[ws,List.append_assoc];exact o9))
   have B1:=zh (((zu HB).alloc bs (.cells #[.int .i64 (x.b.ic.length:Int)] 3)).grown gr9 (by simp;omega) (fun j hj=>by cases hj;exact og.1))
   have n9:n+1≤1+2*1048576+1:=by omega
   clear o9 gr9 loc9 HO HB S1 cf cg bs og
   generalize hA:A0++x.b.ac.flatMap row2++[(x.b.ic.length:Int)]=A1 at *
   have HA1:=zh hA
   clear hA
   go_wp2
   go_loopw [3,5] (fun l i wr=>∃(k g c n:Nat),i= .int .i64 k∧k≤x.b.ic.length∧l= .slice (some ⟨g,0,none⟩) n c∧n≤1+2*1048576+1+2*k∧Hid (Ints.Own wr W0.heap.size g n c (A1++(x.b.ic.take k).flatMap row2))∧Hid (Below W0.heap.size W0 wr)) (fun _ i _=>x.b.ic.length-(intOf i).toNat)
   case atStart=>exact⟨0,_,_,_,rfl,by omega,rfl,by omega,zh (by simpa using zu O1),B1⟩
   case round=>
    clear O1 B1
    obtain⟨k,g,c,n,rfl,hk,rfl,nk,HO,HB⟩:=hrel
    have bs:=(zu HB).size
    have og:=(zu HO).lt
    have S1:=zh ((zu S0).step (zu HB))
    have cf:=(zu S1).c.c1
    by_cases t:k<x.b.ic.length
    ·have kt:(k:Int)<x.b.ic.length:=by omega
     have d:=(zu S1).r.ri k t
     have lg:=(zu S1).r.li
     have NX:=zh (flat_more (f:=row2) ((0,0):Int×Int) t)
     change Hid (_=_++row2 (Chart.el x.b.ic k)) at NX
     change wr.cell? ⟨x.gi,k*2,none⟩=some (.int .i64 (Chart.el x.b.ic k).1)∧wr.cell? ⟨x.gi,k*2+1,none⟩=some (.int .i64 (Chart.el x.b.ic k).2) at d
     generalize Chart.el x.b.ic k=p at *
     obtain⟨p0,p1⟩:=p
     obtain⟨d0,d1⟩:=d
     have K0:wr.cell? ⟨w.heap.size,1,none⟩=some (.slice (some ⟨x.gi,0,none⟩) x.b.ic.length x.ci)∧wr.cell? ⟨x.gi,k*2,none⟩=some (.int .i64 p0)∧wr.cell? ⟨x.gi,k*2+1,none⟩=some (.int .i64 p1):=⟨cf,d0,d1⟩
     go_wp2_with fail
     refine wp_region_held_drew (S:=(fun w'=>w'.cell? ⟨w.heap.size,1,none⟩=some (.slice (some ⟨x.gi,0,none⟩) x.b.ic.length x.ci)∧w'.cell? ⟨x.gi,k*2,none⟩=some (.int .i64 p0)∧w'.cell? ⟨x.gi,k*2+1,none⟩=some (.int .i64 p1))) (by kernel_rfl) K0 (fun hHeld=>?_)
     refine zT 0 50 (.slice (some ⟨g,0,none⟩) n c) rfl hHeld ?_
     refine zT 1 51 (.pointer (some ⟨w.heap.size,1,none⟩)) rfl hHeld ?_
     refine zT 2 52 (.slice (some ⟨x.gi,0,none⟩) x.b.ic.length x.ci) rfl hHeld ?_
     refine zT 3 53 (.int .i64 k) rfl hHeld ?_
     refine zT 4 54 (.pointer (some ⟨x.gi,k*2,none⟩)) rfl hHeld ?_
     refine zT 5 55 (.pointer (some ⟨x.gi,k*2,none⟩)) rfl hHeld ?_
     refine zT 6 56 (.int .i64 p0) rfl hHeld ?_
     refine zT 7 57 (.pointer (some ⟨w.heap.size,1,none⟩)) rfl hHeld ?_
     refine zT 8 58 (.slice (some ⟨x.gi,0,none⟩) x.b.ic.length x.ci) rfl hHeld ?_
     refine zT 9 59 (.int .i64 k) rfl hHeld ?_
     refine zT 10 60 (.pointer (some ⟨x.gi,k*2,none⟩)) rfl hHeld ?_
     refine zT 11 61 (.pointer (some ⟨x.gi,k*2+1,none⟩)) rfl hHeld ?_
     refine zT 12 62 (.int .i64 p1) rfl hHeld ?_
     try simp only[Act.put,zA,zB,zC]
     have KB:(wr.drew.alloc (.cells #[.int .i64 p0,.int .i64 p1] 3)).cell? ⟨w.heap.size,1,none⟩=some (.slice (some ⟨x.gi,0,none⟩) x.b.ic.length x.ci)∧(wr.drew.alloc (.cells #[.int .i64 p0,.int .i64 p1] 3)).cell? ⟨x.gi,k*2,none⟩=some (.int .i64 p0)∧(wr.drew.alloc (.cells #[.int .i64 p0,.int .i64 p1] 3)).cell? ⟨x.gi,k*2+1,none⟩=some (.int .i64 p1):=⟨((one_more wr.drew (.cells #[.int .i64 p0,.int .i64 p1] 3)).cell (p:=⟨w.heap.size,1,none⟩) (show w.heap.size<wr.heap.size from(zu S1).s)).trans cf,((one_more wr.drew (.cells #[.int .i64 p0,.int .i64 p1] 3)).cell (p:=⟨x.gi,k*2,none⟩) (show x.gi<wr.heap.size from lg)).trans d0,((one_more wr.drew (.cells #[.int .i64 p0,.int .i64 p1] 3)).cell (p:=⟨x.gi,k*2+1,none⟩) (show x.gi<wr.heap.size from lg)).trans d1⟩
     refine zR 13 rfl (fun K hK=>?_)
     go_simp
     refine hK.out _ _ KB (fun hHeld=>?_)
     clear hK K
     try simp only[Act.put,zA,zB,zC]
     refine zR 14 rfl (fun K hK=>?_)
     refine step_catI _ (by rfl) _ _ (by rfl) W0.heap.size g n c 2 _ [p0,p1] wr.drew.heap.size 2 (by rfl) (by rfl) (by exact own_allocI (zu HO) _) (by rfl) (by exact lit2 wr.drew p0 p1) (by omega) (Nat.le_trans (show W0.heap.size≤wr.drew.heap.size from bs) (by simp)) ?_
     intro g9 c9 u9 o9 gr9 loc9
     have K9:u9.cell? ⟨w.heap.size,1,none⟩=some (.slice (some ⟨x.gi,0,none⟩) x.b.ic.length x.ci)∧u9.cell? ⟨x.gi,k*2,none⟩=some (.int .i64 p0)∧u9.cell? ⟨x.gi,k*2+1,none⟩=some (.int .i64 p1):=⟨gr9.cell KB.1 (fun e=>by injection e with e;simp at e;have:=(zu S0).s;omega),gr9.cell KB.2.1 (fun e=>by injection e with e;simp at e;have:=(zu XB).1.2;omega),gr9.cell KB.2.2 (fun e=>by injection e with e;simp at e;have:=(zu XB).1.2;omega)⟩
     have O9:=zh o9
     have B9:=zh (((zu HB).drew.alloc (show W0.heap.size≤wr.heap.size from bs) (.cells #[.int .i64 p0,.int .i64 p1] 3)).grown gr9 (Nat.le_trans (show W0.heap.size≤wr.drew.heap.size from bs) (by simp)) (fun j hj=>by cases hj;exact og.1))
     clear o9 gr9 loc9
     refine hK.out _ _ K9 (fun hHeld=>?_)
     clear hK K
     refine zT 15 3 (.slice (some ⟨g9,0,none⟩) (n+2) c9) rfl hHeld ?_
     try simp only[Act.put,zA,zB,zC]
     refine wpAnyH_done (by kernel_rfl) ?_ _
     go_wp2
     go_roundw
     case rel=>exact⟨k+1,g9,c9,n+2,by go_num,by omega,rfl,by omega,zh (by rw[zu NX];first|exact zu O9|(rw[ws];exact zu O9)|(rw[←List.append_assoc];exact zu O9)|(rw[←List.append_assoc,ws];exact zu O9)),B9⟩
     case measure=>simp[intOf];omega
    ·have e:k=x.b.ic.length:=by omega
     subst e
     have O:=zu HO
     rw[List.take_length] at O
     have HO:=zh O
     clear O hk t
     have cg:=(zu S1).c.c2
     go_wp2_with (first|(at_builtin;refine wp_catI _ rfl _ _ rfl W0.heap.size g n c 1 _ [(x.b.bs.length:Int)] _ 1 rfl rfl (own_allocI (zu HO) _) rfl (lit1 _ _) (by omega) (by simp;omega) ?_)|go_in)
     intro g9 c9 u9 o9 gr9 loc9
     have O2:=zh (show Ints.Own u9 W0.heap.size g9 (n+1) c9 (A1++x.b.ic.flatMap row2++[(x.b.bs.length:Int)]) from by first|exact o9|(rw[List.append_assoc];exact o9)|(rw[ws];exact o9)|(rw[ws,List.append_assoc];exact o9))
     have B2:=zh (((zu HB).alloc bs (.cells #[.int .i64 (x.b.bs.length:Int)] 3)).grown gr9 (by simp;omega) (fun j hj=>by cases hj;exact og.1))
     have n9:n+1≤1+2*1048576+1+2*1048576+1:=by omega
     clear o9 gr9 loc9 HO HB S1 cf cg bs og
     generalize hA:A1++x.b.ic.flatMap row2++[(x.b.bs.length:Int)]=A2 at *
     have HA2:=zh hA
     clear hA
     go_wp2
     go_loopw [3,6] (fun l i wr=>∃(k g c n:Nat),i= .int .i64 k∧k≤x.b.bs.length∧l= .slice (some ⟨g,0,none⟩) n c∧n≤1+2*1048576+1+2*1048576+1+3*k∧Hid (Ints.Own wr W0.heap.size g n c (A2++(x.b.bs.take k).flatMap row3))∧Hid (Below W0.heap.size W0 wr)) (fun _ i _=>x.b.bs.length-(intOf i).toNat)
     case atStart=>exact⟨0,_,_,_,rfl,by omega,rfl,by omega,zh (by simpa using zu O2),B2⟩
     case round=>
      clear O2 B2
      obtain⟨k,g,c,n,rfl,hk,rfl,nk,HO,HB⟩:=hrel
      have bs:=(zu HB).size
      have og:=(zu HO).lt
      have S1:=zh ((zu S0).step (zu HB))
      have cf:=(zu S1).c.c2
      by_cases t:k<x.b.bs.length
      ·have kt:(k:Int)<x.b.bs.length:=by omega
       have d:=(zu S1).r.rb k t
       have lg:=(zu S1).r.lb
       have NX:=zh (flat_more (f:=row3) ((0,0,0):T3) t)
       change Hid (_=_++row3 (el3 x.b.bs k)) at NX
       have am:=(zu HA) k t
       change wr.cell? ⟨x.gb,k*3,none⟩=some (.int .i64 (el3 x.b.bs k).1)∧wr.cell? ⟨x.gb,k*3+1,none⟩=some (.int .i64 (el3 x.b.bs k).2.1)∧wr.cell? ⟨x.gb,k*3+2,none⟩=some (.int .i64 (el3 x.b.bs k).2.2) at d
       generalize el3 x.b.bs k=p at *
       obtain⟨p0,p1,p2⟩:=p
       obtain⟨d0,d1,d2⟩:=d
       have am1:wrap64 (p2+1000000000000000)=p2+1000000000000000:=by rw[wrap64];simp only at am;omega
       have am2:IntKind.i64.wrap (p2+1000000000000000)=p2+1000000000000000:=by rw[IntKind.wrap_i64];simp only at am;omega
       have K0:wr.cell? ⟨w.heap.size,2,none⟩=some (.slice (some ⟨x.gb,0,none⟩) x.b.bs.length x.cb)∧wr.cell? ⟨x.gb,k*3,none⟩=some (.int .i64 p0)∧wr.cell? ⟨x.gb,k*3+1,none⟩=some (.int .i64 p1)∧wr.cell? ⟨x.gb,k*3+2,none⟩=some (.int .i64 p2):=⟨cf,d0,d1,d2⟩
       go_wp2_with fail
       refine wp_region_held_drew (S:=(fun w'=>w'.cell? ⟨w.heap.size,2,none⟩=some (.slice (some ⟨x.gb,0,none⟩) x.b.bs.length x.cb)∧w'.cell? ⟨x.gb,k*3,none⟩=some (.int .i64 p0)∧w'.cell? ⟨x.gb,k*3+1,none⟩=some (.int .i64 p1)∧w'.cell? ⟨x.gb,k*3+2,none⟩=some (.int .i64 p2))) (by kernel_rfl) K0 (fun hHeld=>?_)
       refine zT 0 78 (.slice (some ⟨g,0,none⟩) n c) rfl hHeld ?_
       refine zT 1 79 (.pointer (some ⟨w.heap.size,2,none⟩)) rfl hHeld ?_
       refine zT 2 80 (.slice (some ⟨x.gb,0,none⟩) x.b.bs.length x.cb) rfl hHeld ?_
       refine zT 3 81 (.int .i64 k) rfl hHeld ?_
       refine zT 4 82 (.pointer (some ⟨x.gb,k*3,none⟩)) rfl hHeld ?_
       refine zT 5 83 (.pointer (some ⟨x.gb,k*3,none⟩)) rfl hHeld ?_
       refine zT 6 84 (.int .i64 p0) rfl hHeld ?_
       refine zT 7 85 (.pointer (some ⟨w.heap.size,2,none⟩)) rfl hHeld ?_
       refine zT 8 86 (.slice (some ⟨x.gb,0,none⟩) x.b.bs.length x.cb) rfl hHeld ?_
       refine zT 9 87 (.int .i64 k) rfl hHeld ?_
       refine zT 10 88 (.pointer (some ⟨x.gb,k*3,none⟩)) rfl hHeld ?_
       refine zT 11 89 (.pointer (some ⟨x.gb,k*3+1,none⟩)) rfl hHeld ?_
       refine zT 12 90 (.int .i64 p1) rfl hHeld ?_
       refine zT 13 91 (.pointer (some ⟨w.heap.size,2,none⟩)) rfl hHeld ?_
       refine zT 14 92 (.slice (some ⟨x.gb,0,none⟩) x.b.bs.length x.cb) rfl hHeld ?_
       refine zT 15 93 (.int .i64 k) rfl hHeld ?_
       refine zT 16 94 (.pointer (some ⟨x.gb,k*3,none⟩)) rfl hHeld ?_
       refine zT 17 95 (.pointer (some ⟨x.gb,k*3+2,none⟩)) rfl hHeld ?_
       refine zT 18 96 (.int .i64 p2) rfl hHeld ?_
       refine zT 19 97 (.int .i64 (p2+1000000000000000)) rfl hHeld ?_
       try simp only[Act.put,zA,zB,zC]
       have KB:(wr.drew.alloc (.cells #[.int .i64 p0,.int .i64 p1,.int .i64 (p2+1000000000000000)] 3)).cell? ⟨w.heap.size,2,none⟩=some (.slice (some ⟨x.gb,0,none⟩) x.b.bs.length x.cb)∧(wr.drew.alloc (.cells #[.int .i64 p0,.int .i64 p1,.int .i64 (p2+1000000000000000)] 3)).cell? ⟨x.gb,k*3,none⟩=some (.int .i64 p0)∧(wr.drew.alloc (.cells #[.int .i64 p0,.int .i64 p1,.int .i64 (p2+1000000000000000)] 3)).cell? ⟨x.gb,k*3+1,none⟩=some (.int .i64 p1)∧(wr.drew.alloc (.cells #[.int .i64 p0,.int .i64 p1,.int .i64 (p2+1000000000000000)] 3)).cell? ⟨x.gb,k*3+2,none⟩=some (.int .i64 p2):=⟨((one_more wr.drew (.cells #[.int .i64 p0,.int .i64 p1,.int .i64 (p2+1000000000000000)] 3)).cell (p:=⟨w.heap.size,2,none⟩) (show w.heap.size<wr.heap.size from(zu S1).s)).trans cf,((one_more wr.drew (.cells #[.int .i64 p0,.int .i64 p1,.int .i64 (p2+1000000000000000)] 3)).cell (p:=⟨x.gb,k*3,none⟩) (show x.gb<wr.heap.size from lg)).trans d0,((one_more wr.drew (.cells #[.int .i64 p0,.int .i64 p1,.int .i64 (p2+1000000000000000)] 3)).cell (p:=⟨x.gb,k*3+1,none⟩) (show x.gb<wr.heap.size from lg)).trans d1,((one_more wr.drew (.cells #[.int .i64 p0,.int .i64 p1,.int .i64 (p2+1000000000000000)] 3)).cell (p:=⟨x.gb,k*3+2,none⟩) (show x.gb<wr.heap.size from lg)).trans d2⟩
       refine zR 20 rfl (fun K hK=>?_)
       go_simp
       refine hK.out _ _ KB (fun hHeld=>?_)
       clear hK K
       try simp only[Act.put,zA,zB,zC]
       refine zR 21 rfl (fun K hK=>?_)
       refine step_catI _ (by rfl) _ _ (by rfl) W0.heap.size g n c 3 _ [p0,p1,(p2+1000000000000000)] wr.drew.heap.size 3 (by rfl) (by rfl) (by exact own_allocI (zu HO) _) (by rfl) (by exact lit3 wr.drew p0 p1 (p2+1000000000000000)) (by omega) (Nat.le_trans (show W0.heap.size≤wr.drew.heap.size from bs) (by simp)) ?_
       intro g9 c9 u9 o9 gr9 loc9
       have K9:u9.cell? ⟨w.heap.size,2,none⟩=some (.slice (some ⟨x.gb,0,none⟩) x.b.bs.length x.cb)∧u9.cell? ⟨x.gb,k*3,none⟩=some (.int .i64 p0)∧u9.cell? ⟨x.gb,k*3+1,none⟩=some (.int .i64 p1)∧u9.cell? ⟨x.gb,k*3+2,none⟩=some (.int .i64 p2):=⟨gr9.cell KB.1 (fun e=>by injection e with e;simp at e;have:=(zu S0).s;omega),gr9.cell KB.2.1 (fun e=>by injection e with e;simp at e;have:=(zu XB).2;omega),gr9.cell KB.2.2.1 (fun e=>by injection e with e;simp at e;have:=(zu XB).2;omega),gr9.cell KB.2.2.2 (fun e=>by injection e with e;simp at e;have:=(zu XB).2;omega)⟩
       have O9:=zh o9
       have B9:=zh (((zu HB).drew.alloc (show W0.heap.size≤wr.heap.size from bs) (.cells #[.int .i64 p0,.int .i64 p1,.int .i64 (p2+1000000000000000)] 3)).grown gr9 (Nat.le_trans (show W0.heap.size≤wr.drew.heap.size from bs) (by simp)) (fun j hj=>by cases hj;exact og.1))
       clear o9 gr9 loc9
       refine hK.out _ _ K9 (fun hHeld=>?_)
       clear hK K
       refine zT 22 3 (.slice (some ⟨g9,0,none⟩) (n+3) c9) rfl hHeld ?_
       try simp only[Act.put,zA,zB,zC]
       refine wpAnyH_done (by kernel_rfl) ?_ _
       go_wp2
       go_roundw
       case rel=>exact⟨k+1,g9,c9,n+3,by go_num,by omega,rfl,by omega,zh (by rw[zu NX];first|exact zu O9|(rw[ws];exact zu O9)|(rw[←List.append_assoc];exact zu O9)|(rw[←List.append_assoc,ws];exact zu O9)),B9⟩
       case measure=>simp[intOf];omega
      ·have e:k=x.b.bs.length:=by omega
       subst e
       have O:=zu HO
       rw[List.take_length] at O
       have HO:=zh O
       clear O hk t
       have cg:=(zu S1).c.c3
       go_wp2_with (first|(at_builtin;refine wp_catI _ rfl _ _ rfl W0.heap.size g n c 1 _ [(x.b.ls.length:Int)] _ 1 rfl rfl (own_allocI (zu HO) _) rfl (lit1 _ _) (by omega) (by simp;omega) ?_)|go_in)
       intro g9 c9 u9 o9 gr9 loc9
       have O3:=zh (show Ints.Own u9 W0.heap.size g9 (n+1) c9 (A2++x.b.bs.flatMap row3++[(x.b.ls.length:Int)]) from by first|exact o9|(rw[List.append_assoc];exact o9)|(rw[ws];exact o9)|(rw[ws,List.append_assoc];exact o9))
       have B3:=zh (((zu HB).alloc bs (.cells #[.int .i64 (x.b.ls.length:Int)] 3)).grown gr9 (by simp;omega) (fun j hj=>by cases hj;exact og.1))
       have n9:n+1≤1+2*1048576+1+2*1048576+1+3*1048576+1:=by omega
       clear o9 gr9 loc9 HO HB S1 cf cg bs og
       generalize hA:A2++x.b.bs.flatMap row3++[(x.b.ls.length:Int)]=A3 at *
       have HA3:=zh hA
       clear hA
       go_wp2
       go_loopw [3,7,8] (fun l i _ wr=>∃(k g c n:Nat),i= .int .i64 k∧k≤x.b.ls.length∧l= .slice (some ⟨g,0,none⟩) n c∧n≤1+2*1048576+1+2*1048576+1+3*1048576+1+5*k∧Hid (Ints.Own wr W0.heap.size g n c (A3++(x.b.ls.take k).flatMap row5))∧Hid (Below W0.heap.size W0 wr)) (fun _ i _ _=>x.b.ls.length-(intOf i).toNat)
       case atStart=>exact⟨0,_,_,_,rfl,by omega,rfl,by omega,zh (by simpa using zu O3),B3⟩
       case round=>
        clear O3 B3
        obtain⟨k,g,c,n,rfl,hk,rfl,nk,HO,HB⟩:=hrel
        have bs:=(zu HB).size
        have og:=(zu HO).lt
        have S1:=zh ((zu S0).step (zu HB))
        have cf:=(zu S1).c.c3
        by_cases t:k<x.b.ls.length
        ·have kt:(k:Int)<x.b.ls.length:=by omega
         have d:=(zu S1).r.rl k t
         have lg:=(zu S1).r.ll
         have NX:=zh (flat_more (f:=row5) ((0,0,0,0,0):T5) t)
         change Hid (_=_++row5 (el5 x.b.ls k)) at NX
         change wr.cell? ⟨x.gl,k*5,none⟩=some (.int .i64 (el5 x.b.ls k).1)∧wr.cell? ⟨x.gl,k*5+1,none⟩=some (.int .i64 (el5 x.b.ls k).2.1)∧wr.cell? ⟨x.gl,k*5+2,none⟩=some (.int .i64 (el5 x.b.ls k).2.2.1)∧wr.cell? ⟨x.gl,k*5+3,none⟩=some (.int .i64 (el5 x.b.ls k).2.2.2.1)∧wr.cell? ⟨x.gl,k*5+4,none⟩=some (.int .i64 (el5 x.b.ls k).2.2.2.2) at d
         generalize el5 x.b.ls k=p at *
         obtain⟨p0,p1,p2,p3,p4⟩:=p
         obtain⟨d0,d1,d2,d3,d4⟩:=d
         have LL:=zh (lit5 (wr.alloc (.cells #[.int .i64 p0,.int .i64 p1,.int .i64 p2,.int .i64 p3,.int .i64 p4] 134)) p0 p1 p2 p3 p4)
         rw[show(wr.alloc (.cells #[.int .i64 p0,.int .i64 p1,.int .i64 p2,.int .i64 p3,.int .i64 p4] 134)).heap.size=wr.heap.size+1 by simp] at LL
         go_wp2_with (first|(at_builtin;refine wp_catI _ rfl _ _ rfl W0.heap.size g n c 5 _ [p0,p1,p2,p3,p4] (wr.heap.size+1) 5 rfl rfl (own_allocI (own_allocI (zu HO) _) _) rfl (zu LL) (by omega) (by simp;omega) ?_)|go_in)
         intro g9 c9 u9 o9 gr9 loc9
         have O9:=zh o9
         have B9:=zh ((((zu HB).alloc bs (.cells #[.int .i64 p0,.int .i64 p1,.int .i64 p2,.int .i64 p3,.int .i64 p4] 134)).alloc (by simp;omega) (.cells #[.int .i64 p0,.int .i64 p1,.int .i64 p2,.int .i64 p3,.int .i64 p4] 3)).grown gr9 (by simp;omega) (fun j hj=>by cases hj;exact og.1))
         clear o9 gr9 loc9
         go_wp2
         go_roundw
         case rel=>exact⟨k+1,g9,c9,n+5,by go_num,by omega,rfl,by omega,zh (by rw[zu NX];first|exact zu O9|(rw[ws];exact zu O9)|(rw[←List.append_assoc];exact zu O9)|(rw[←List.append_assoc,ws];exact zu O9)),B9⟩
         case measure=>simp[intOf];omega
        ·have e:k=x.b.ls.length:=by omega
         subst e
         have O:=zu HO
         rw[List.take_length] at O
         have HO:=zh O
         clear O hk t
         have cg:=(zu S1).c.c4
         go_wp2_with (first|(at_builtin;refine wp_catI _ rfl _ _ rfl W0.heap.size g n c 1 _ [(x.b.ts.length:Int)] _ 1 rfl rfl (own_allocI (zu HO) _) rfl (lit1 _ _) (by omega) (by simp;omega) ?_)|go_in)
         intro g9 c9 u9 o9 gr9 loc9
         have O4:=zh (show Ints.Own u9 W0.heap.size g9 (n+1) c9 (A3++x.b.ls.flatMap row5++[(x.b.ts.length:Int)]) from by first|exact o9|(rw[List.append_assoc];exact o9)|(rw[ws];exact o9)|(rw[ws,List.append_assoc];exact o9))
         have B4:=zh (((zu HB).alloc bs (.cells #[.int .i64 (x.b.ts.length:Int)] 3)).grown gr9 (by simp;omega) (fun j hj=>by cases hj;exact og.1))
         have n9:n+1≤1+2*1048576+1+2*1048576+1+3*1048576+1+5*1048576+1:=by omega
         clear o9 gr9 loc9 HO HB S1 cf cg bs og
         generalize hA:A3++x.b.ls.flatMap row5++[(x.b.ts.length:Int)]=A4 at *
         have HA4:=zh hA
         clear hA
         go_wp2
         go_loopw [3,9,10] (fun l i _ wr=>∃(k g c n:Nat),i= .int .i64 k∧k≤x.b.ts.length∧l= .slice (some ⟨g,0,none⟩) n c∧n≤1+2*1048576+1+2*1048576+1+3*1048576+1+5*1048576+1+8*k∧Hid (Ints.Own wr W0.heap.size g n c (A4++(x.b.ts.take k).flatMap row8))∧Hid (Below W0.heap.size W0 wr)) (fun _ i _ _=>x.b.ts.length-(intOf i).toNat)
         case atStart=>exact⟨0,_,_,_,rfl,by omega,rfl,by omega,zh (by simpa using zu O4),B4⟩
         case round=>
          clear O4 B4
          obtain⟨k,g,c,n,rfl,hk,rfl,nk,HO,HB⟩:=hrel
          have bs:=(zu HB).size
          have og:=(zu HO).lt
          have S1:=zh ((zu S0).step (zu HB))
          have cf:=(zu S1).c.c4
          by_cases t:k<x.b.ts.length
          ·have kt:(k:Int)<x.b.ts.length:=by omega
           have d:=(zu S1).r.rt k t
           have lg:=(zu S1).r.lt
           have NX:=zh (flat_more (f:=row8) ((0,0,0,0,0,0,0,0):T8) t)
           change Hid (_=_++row8 (el8 x.b.ts k)) at NX
           change wr.cell? ⟨x.gt,k*8,none⟩=some (.int .i64 (el8 x.b.ts k).1)∧wr.cell? ⟨x.gt,k*8+1,none⟩=some (.int .i64 (el8 x.b.ts k).2.1)∧wr.cell? ⟨x.gt,k*8+2,none⟩=some (.int .i64 (el8 x.b.ts k).2.2.1)∧wr.cell? ⟨x.gt,k*8+3,none⟩=some (.int .i64 (el8 x.b.ts k).2.2.2.1)∧wr.cell? ⟨x.gt,k*8+4,none⟩=some (.int .i64 (el8 x.b.ts k).2.2.2.2.1)∧wr.cell? ⟨x.gt,k*8+5,none⟩=some (.int .i64 (el8 x.b.ts k).2.2.2.2.2.1)∧wr.cell? ⟨x.gt,k*8+6,none⟩=some (.int .i64 (el8 x.b.ts k).2.2.2.2.2.2.1)∧wr.cell? ⟨x.gt,k*8+7,none⟩=some (.int .i64 (el8 x.b.ts k).2.2.2.2.2.2.2) at d
           generalize el8 x.b.ts k=p at *
           obtain⟨p0,p1,p2,p3,p4,p5,p6,p7⟩:=p
           obtain⟨d0,d1,d2,d3,d4,d5,d6,d7⟩:=d
           have LL:=zh (lit8 (wr.alloc (.cells #[.int .i64 p0,.int .i64 p1,.int .i64 p2,.int .i64 p3,.int .i64 p4,.int .i64 p5,.int .i64 p6,.int .i64 p7] 136)) p0 p1 p2 p3 p4 p5 p6 p7)
           rw[show(wr.alloc (.cells #[.int .i64 p0,.int .i64 p1,.int .i64 p2,.int .i64 p3,.int .i64 p4,.int .i64 p5,.int .i64 p6,.int .i64 p7] 136)).heap.size=wr.heap.size+1 by simp] at LL
           go_wp2_with (first|(at_builtin;refine wp_catI _ rfl _ _ rfl W0.heap.size g n c 8 _ [p0,p1,p2,p3,p4,p5,p6,p7] (wr.heap.size+1) 8 rfl rfl (own_allocI (own_allocI (zu HO) _) _) rfl (zu LL) (by omega) (by simp;omega) ?_)|go_in)
           intro g9 c9 u9 o9 gr9 loc9
           have O9:=zh o9
           have B9:=zh ((((zu HB).alloc bs (.cells #[.int .i64 p0,.int .i64 p1,.int .i64 p2,.int .i64 p3,.int .i64 p4,.int .i64 p5,.int .i64 p6,.int .i64 p7] 136)).alloc (by simp;omega) (.cells #[.int .i64 p0,.int .i64 p1,.int .i64 p2,.int .i64 p3,.int .i64 p4,.int .i64 p5,.int .i64 p6,.int .i64 p7] 3)).grown gr9 (by simp;omega) (fun j hj=>by cases hj;exact og.1))
           clear o9 gr9 loc9
           go_wp2
           go_roundw
           case rel=>exact⟨k+1,g9,c9,n+8,by go_num,by omega,rfl,by omega,zh (by rw[zu NX];first|exact zu O9|(rw[ws];exact zu O9)|(rw[←List.append_assoc];exact zu O9)|(rw[←List.append_assoc,ws];exact zu O9)),B9⟩
           case measure=>simp[intOf];omega
          ·have e:k=x.b.ts.length:=by omega
           subst e
           have O:=zu HO
           rw[List.take_length] at O
           have HO:=zh O
           clear O hk t
           have cg:=(zu S1).c.c5
           go_wp2_with (first|(at_builtin;refine wp_catI _ rfl _ _ rfl W0.heap.size g n c 1 _ [x.b.lot] _ 1 rfl rfl (own_allocI (zu HO) _) rfl (lit1 _ _) (by omega) (by simp;omega) ?_)|go_in)
           intro g9 c9 u9 o9 gr9 loc9
           have O9:=zh o9
           have B9:=zh (((zu HB).alloc bs (.cells #[.int .i64 x.b.lot] 3)).grown gr9 (by simp;omega) (fun j hj=>by cases hj;exact og.1))
           clear o9 gr9 loc9
           go_wp2
           go_ret
           have E:A4++x.b.ts.flatMap row8++[x.b.lot]=nums x.b:=by rw[←zu HA4,←zu HA3,←zu HA2,←zu HA1,←zu HA0];rfl
           have O:Ints.Own u9 W0.heap.size g9 (n+1) c9 (A4++x.b.ts.flatMap row8++[x.b.lot]):=by first|exact zu O9|(rw[List.append_assoc];exact zu O9)|(rw[ws];exact zu O9)|(rw[ws,List.append_assoc];exact zu O9)
           rw[E] at O
           have l:=O.len
           refine⟨g9,c9,?_,?_,((zu S0).b.trans ((zu B9).mono (by omega)))⟩
           ·rw[l];rfl
           ·rw[l];exact O.mono (by omega)
end SNums13
namespace BMemV13
open BMem Bks BHelp
open Lots (Says says_of NoOk ownL restL)
open Bals (T3 el3 val sumI)
open Tup5 (T5 el5)
open Tup8 (T8 el8)
open IBalsFit (one_more)
structure RdV(w:World)(x:Ix):Prop where
 ea:x.b.ac.length≠0→∃g,x.aa=some ⟨g,0,none⟩
 ra:∀g,x.aa=some ⟨g,0,none⟩→g<w.heap.size∧Pairs.At w g x.b.ac
 na:x.b.ac.length≤1048576
 ei:x.b.ic.length≠0→∃g,x.ai=some ⟨g,0,none⟩
 ri:∀g,x.ai=some ⟨g,0,none⟩→g<w.heap.size∧Pairs.At w g x.b.ic
 ni:x.b.ic.length≤1048576
 eb:x.b.bs.length≠0→∃g,x.ab=some ⟨g,0,none⟩
 rb:∀g,x.ab=some ⟨g,0,none⟩→g<w.heap.size∧Triples.At3 w g x.b.bs
 nb:x.b.bs.length≤1048576
 el:x.b.ls.length≠0→∃g,x.al=some ⟨g,0,none⟩
 rl:∀g,x.al=some ⟨g,0,none⟩→g<w.heap.size∧Tup5.At5 w g x.b.ls
 nl:x.b.ls.length≤1048576
 et:x.b.ts.length≠0→∃g,x.ats=some ⟨g,0,none⟩
 rt:∀g,x.ats=some ⟨g,0,none⟩→g<w.heap.size∧Tup8.At8 w g x.b.ts
 nt:x.b.ts.length≤1048576
theorem RdV.below{w w':World}{x:Ix}(h:RdV w x)(k:Below w.heap.size w w'):RdV w' x:=
 ⟨h.ea,fun g e=>⟨Nat.lt_of_lt_of_le (h.ra g e).1 k.size,(h.ra g e).2.below k (h.ra g e).1⟩,h.na,h.ei,fun g e=>⟨Nat.lt_of_lt_of_le (h.ri g e).1 k.size,(h.ri g e).2.below k (h.ri g e).1⟩,h.ni,h.eb,fun g e=>⟨Nat.lt_of_lt_of_le (h.rb g e).1 k.size,(h.rb g e).2.below k (h.rb g e).1⟩,h.nb,h.el,fun g e=>⟨Nat.lt_of_lt_of_le (h.rl g e).1 k.size,(h.rl g e).2.below k (h.rl g e).1⟩,h.nl,h.et,fun g e=>⟨Nat.lt_of_lt_of_le (h.rt g e).1 k.size,(h.rt g e).2.below k (h.rt g e).1⟩,h.nt⟩
structure ClV(w:World)(g:Nat)(x:Ix):Prop where
 c0:w.cell? ⟨g,0,none⟩=some (.slice x.aa x.b.ac.length x.ca)
 c1:w.cell? ⟨g,1,none⟩=some (.slice x.ai x.b.ic.length x.ci)
 c2:w.cell? ⟨g,2,none⟩=some (.slice x.ab x.b.bs.length x.cb)
 c3:w.cell? ⟨g,3,none⟩=some (.slice x.al x.b.ls.length x.cl)
 c4:w.cell? ⟨g,4,none⟩=some (.slice x.ats x.b.ts.length x.ct)
 c5:w.cell? ⟨g,5,none⟩=some (.int .i64 x.b.lot)
theorem ClV.below{w w':World}{B g:Nat}{x:Ix}(h:ClV w g x)(k:Below B w w')(hg:g<B):ClV w' g x:=
 ⟨(k.cell (p:=⟨g,0,none⟩) hg).trans h.c0,(k.cell (p:=⟨g,1,none⟩) hg).trans h.c1,(k.cell (p:=⟨g,2,none⟩) hg).trans h.c2,(k.cell (p:=⟨g,3,none⟩) hg).trans h.c3,(k.cell (p:=⟨g,4,none⟩) hg).trans h.c4,(k.cell (p:=⟨g,5,none⟩) hg).trans h.c5⟩
end BMemV13
namespace SRead13L
theorem row_step{W W':World}{base:Nat}{e:TypeId}{m:Nat}{v:Value}{n:Nat}{vs:List Value}(h:W.ownsRow base e m v n vs)(k:Below W.heap.size W W'):W'.ownsRow base e m v n vs:=
 World.ownsRow.kept h (row:=none) ⟨k.os,k.tape,k.output,k.size,fun i hi _=>k.block i hi⟩ (by
  cases hb:v.ownBlock with
  |none=>exact .inl rfl
  |some g=>exact .inr (by simp))
theorem addr_of{W:World}{base:Nat}{e:TypeId}{m n c:Nat}{a:Option Addr}{vs:List Value}(h:W.ownsRow base e m (.slice a n c) n vs):(n≠0→∃g,a=some ⟨g,0,none⟩)∧∀g,a=some ⟨g,0,none⟩→g<W.heap.size:=by
 refine⟨fun hn=>?_,fun g e=>(World.ownsRow.lt h g (by rw[e];rfl)).2⟩
 rcases h.2 with⟨h1,_⟩|⟨g,c',cur,h1,_⟩
 ·have:n=0:=by simp at h1;omega
  exact absurd this hn
 ·have:a=some ⟨g,0,none⟩∧c=c':=by simpa using h1
  exact⟨g,this.1⟩
end SRead13L
namespace VB13
open BMem Bks BHelp BkEq BMemV13
open SRead13L (row_step)
open IBalsFit (one_more)
theorem other{W W':World}{base base':Nat}{e e':TypeId}{m m':Nat}{v v':Value}{n n':Nat}{vs vs':List Value}(h:W.ownsRow base e m v n vs)(k:W.ownsRow base' e' m' v' n' vs')(ne:e≠e')(g:W.grownBy W' v'.ownBlock):W'.ownsRow base e m v n vs:=
 World.ownsRow.kept h g (by
  cases hb:v.ownBlock with
  |none=>exact .inl rfl
  |some b=>
   refine .inr (fun eq=>?_)
   rcases h.2 with⟨h1,_⟩|⟨b1,c1,cur1,h1,_,h2,_⟩
   ·rw[h1] at hb;simp[Value.ownBlock] at hb
   ·rcases k.2 with⟨k1,_⟩|⟨b2,c2,cur2,k1,_,k2,_⟩
    ·rw[k1] at eq;simp[Value.ownBlock] at eq
    ·rw[h1] at hb
     rw[k1] at eq
     have e1:b1=b:=by simpa[Value.ownBlock] using hb
     have e2:b=b2:=by simpa[Value.ownBlock] using eq
     subst e1 e2
     rw[h2] at k2
     injection k2 with k2
     injection k2 with _ k2
     exact ne k2)
structure OwV(w:World)(base:Nat)(x:Ix):Prop where
 oa:w.ownsRow base 129 2 (.slice x.aa x.b.ac.length x.ca) x.b.ac.length (Pairs.flat x.b.ac)
 oi:w.ownsRow base 130 2 (.slice x.ai x.b.ic.length x.ci) x.b.ic.length (Pairs.flat x.b.ic)
 ob:w.ownsRow base 132 3 (.slice x.ab x.b.bs.length x.cb) x.b.bs.length (Triples.flat3 x.b.bs)
 ol:w.ownsRow base 134 5 (.slice x.al x.b.ls.length x.cl) x.b.ls.length (Tup5.flat5 x.b.ls)
 ot:w.ownsRow base 136 8 (.slice x.ats x.b.ts.length x.ct) x.b.ts.length (Tup8.flat8 x.b.ts)
structure TurnV(x:Ix)(w w':World):Prop where
 os:w'.os=w.os
 tape:w'.tape=w.tape
 output:w'.output=w.output
 size:w.heap.size≤w'.heap.size
 block:∀k,k<w.heap.size→some k≠(.slice x.aa x.b.ac.length x.ca:Value).ownBlock→some k≠(.slice x.ai x.b.ic.length x.ci:Value).ownBlock→some k≠(.slice x.ab x.b.bs.length x.cb:Value).ownBlock→some k≠(.slice x.al x.b.ls.length x.cl:Value).ownBlock→some k≠(.slice x.ats x.b.ts.length x.ct:Value).ownBlock→w'.heap[k]?=w.heap[k]?
theorem TurnV.grown{x:Ix}{w u v:World}{row:Option Nat}(h:TurnV x w u)(k:u.grownBy v row)(hg:row=(.slice x.aa x.b.ac.length x.ca:Value).ownBlock∨row=(.slice x.ai x.b.ic.length x.ci:Value).ownBlock∨row=(.slice x.ab x.b.bs.length x.cb:Value).ownBlock∨row=(.slice x.al x.b.ls.length x.cl:Value).ownBlock∨row=(.slice x.ats x.b.ts.length x.ct:Value).ownBlock):TurnV x w v:=
 ⟨k.os.trans h.os,k.tape.trans h.tape,k.output.trans h.output,Nat.le_trans h.size k.size,fun j hj a b c d e=>(k.block j (Nat.lt_of_lt_of_le hj h.size) (fun q=>by
  rcases hg with r|r|r|r|r
  ·exact a (q.trans r)
  ·exact b (q.trans r)
  ·exact c (q.trans r)
  ·exact d (q.trans r)
  ·exact e (q.trans r))).trans (h.block j hj a b c d e)⟩
theorem TurnV.of{x:Ix}{w w':World}(h:Below w.heap.size w w'):TurnV x w w':=⟨h.os,h.tape,h.output,h.size,fun j hj _ _ _ _ _=>h.block j hj⟩
theorem OwV.step{w w':World}{base:Nat}{x:Ix}(h:OwV w base x)(k:Below w.heap.size w w'):OwV w' base x:=⟨row_step h.oa k,row_step h.oi k,row_step h.ob k,row_step h.ol k,row_step h.ot k⟩
theorem OwV.rd{w:World}{base:Nat}{x:Ix}(h:OwV w base x)(hn:Small x.b):RdV w x:=by
 obtain⟨n1,n2,n3,n4,n5⟩:=hn
 refine⟨(SRead13L.addr_of h.oa).1,fun g e=>⟨(SRead13L.addr_of h.oa).2 g e,?_⟩,n1,(SRead13L.addr_of h.oi).1,fun g e=>⟨(SRead13L.addr_of h.oi).2 g e,?_⟩,n2,(SRead13L.addr_of h.ob).1,fun g e=>⟨(SRead13L.addr_of h.ob).2 g e,?_⟩,n3,(SRead13L.addr_of h.ol).1,fun g e=>⟨(SRead13L.addr_of h.ol).2 g e,?_⟩,n4,(SRead13L.addr_of h.ot).1,fun g e=>⟨(SRead13L.addr_of h.ot).2 g e,?_⟩,n5⟩
 ·have o:=h.oa
  rw[e] at o
  exact Pairs.Own.at o
 ·have o:=h.oi
  rw[e] at o
  exact Pairs.Own.at o
 ·have o:=h.ob
  rw[e] at o
  exact Triples.Own3.at o
 ·have o:=h.ol
  rw[e] at o
  exact Tup5.Own5.at o
 ·have o:=h.ot
  rw[e] at o
  exact Tup8.Own8.at o
theorem eqNAccount(w:World)(a1 a2:Option Addr)(c1 c2:Nat):Calls Tryz.prog 66 #[.slice a1 0 c1,.slice a2 0 c2] w fun e w'=>e= .returned (.bool true)∧w'=w:=by
 go_enter Tryz.func66,Tryz.ntmps66
 go_wp2
 go_loopw [5] (fun j wr=>j= .int .i64 0∧wr=w) (fun _ _=>0)
 case atStart=>exact⟨rfl,rfl⟩
 case round=>
  obtain⟨rfl,rfl⟩:=hrel
  go_wp2
  go_ret
  exact⟨rfl,rfl⟩
theorem markNAccount(w:World)(a:Option Addr)(c:Nat)(s:Int):Calls Tryz.prog 72 #[.slice a 0 c,.int .i64 s] w fun e w'=>e= .returned (.int .i64 s)∧w'=w:=by
 go_enter Tryz.func72,Tryz.ntmps72
 go_wp2
 go_loopw [1,5] (fun m j wr=>m= .int .i64 s∧j= .int .i64 0∧wr=w) (fun _ _ _=>0)
 case atStart=>exact⟨rfl,rfl,rfl⟩
 case round=>
  obtain⟨rfl,rfl,rfl⟩:=hrel
  go_wp2
  go_ret
  exact⟨rfl,rfl⟩
theorem heldNAccount(w:World)(a:Option Addr)(c:Nat)(s:Int):Calls Tryz.prog 78 #[.slice a 0 c,.int .i64 s] w fun e w'=>e= .returned (.int .i64 s)∧w'=w:=by
 go_enter Tryz.func78,Tryz.ntmps78
 go_wp2
 go_loopw [1,5] (fun m j wr=>m= .int .i64 s∧j= .int .i64 0∧wr=w) (fun _ _ _=>0)
 case atStart=>exact⟨rfl,rfl,rfl⟩
 case round=>
  obtain⟨rfl,rfl,rfl⟩:=hrel
  go_wp2
  go_ret
  exact⟨rfl,rfl⟩
theorem eqAccount(w:World)(x y:Ix)(hb:y.b=x.b)(hx:RdV w x)(hy:RdV w y):Calls Tryz.prog 66 #[.slice x.aa x.b.ac.length x.ca,.slice y.aa x.b.ac.length y.ca] w fun e w'=>e= .returned (.bool true)∧Below w.heap.size w w':=by
 by_cases z:x.b.ac.length=0
 ·rw[z]
  exact(eqNAccount w _ _ _ _).mono fun e w' ⟨h1,h2⟩=>⟨h1,by rw[h2];exact Below.refl _ _⟩
 ·obtain⟨g1,e1⟩:=hx.ea z
  obtain⟨g2,e2⟩:=hy.ea (by rw[hb];exact z)
  have a1:=hx.ra g1 e1
  have a2:=hy.ra g2 e2
  rw[hb] at a2
  rw[e1,e2]
  exact AccountHelp.eqS w g1 g2 _ _ _ x.b.ac rfl hx.na a1.1 a2.1 a1.2 a2.2
theorem markAccount(w:World)(base n c:Nat)(a:Option Addr)(s:Int)(ps:List (Int×Int))(h20:n≤1048576)(s0:0≤s)(s1:s≤100000000)(ho:w.ownsRow base 129 2 (.slice a n c) n (Pairs.flat ps)):
  Calls Tryz.prog 72 #[.slice a n c,.int .i64 s] w fun e w'=>e= .returned (.int .i64 (s+2*(n:Int)))∧w'.ownsRow base 129 2 (.slice a n c) n (Pairs.flat (AccountMark.marks s n))∧w.grownBy w' (Value.slice a n c).ownBlock:=by
 have ho':=ho
 rcases ho.2 with⟨h1,h2⟩|⟨g,c',cur,h1,_⟩
 ·obtain⟨rfl,_,rfl⟩:a=none∧n=0∧c=0:=by simpa using h1
  subst h2
  exact(markNAccount w _ _ s).mono fun e w' ⟨q1,q2⟩=>⟨by rw[q1];simp,by rw[q2];exact World.ownsRow_nil w base _ _,by rw[q2];exact World.grownBy.refl _ _⟩
 ·obtain⟨rfl,rfl⟩:a=some ⟨g,0,none⟩∧c=c':=by simpa using h1
  exact AccountMark.markS w base g n c s ps h20 s0 s1 ho'
theorem heldAccount(w:World)(base n c:Nat)(a:Option Addr)(s:Int)(h20:n≤1048576)(s0:0≤s)(s1:s≤100000000)(ho:w.ownsRow base 129 2 (.slice a n c) n (Pairs.flat (AccountMark.marks s n))):
  Calls Tryz.prog 78 #[.slice a n c,.int .i64 s] w fun e w'=>e= .returned (.int .i64 (s+2*(n:Int)))∧w'=w:=by
 have ho':=ho
 rcases ho.2 with⟨h1,h2⟩|⟨g,c',cur,h1,_⟩
 ·obtain⟨rfl,_,rfl⟩:a=none∧n=0∧c=0:=by simpa using h1
  subst h2
  exact(heldNAccount w _ _ s).mono fun e w' ⟨q1,q2⟩=>⟨by rw[q1];simp,q2⟩
 ·obtain⟨rfl,rfl⟩:a=some ⟨g,0,none⟩∧c=c':=by simpa using h1
  exact AccountMark.heldS w g n c s h20 s0 s1 (Pairs.Own.at ho')
theorem eqNInstr(w:World)(a1 a2:Option Addr)(c1 c2:Nat):Calls Tryz.prog 67 #[.slice a1 0 c1,.slice a2 0 c2] w fun e w'=>e= .returned (.bool true)∧w'=w:=by
 go_enter Tryz.func67,Tryz.ntmps67
 go_wp2
 go_loopw [5] (fun j wr=>j= .int .i64 0∧wr=w) (fun _ _=>0)
 case atStart=>exact⟨rfl,rfl⟩
 case round=>
  obtain⟨rfl,rfl⟩:=hrel
  go_wp2
  go_ret
  exact⟨rfl,rfl⟩
theorem markNInstr(w:World)(a:Option Addr)(c:Nat)(s:Int):Calls Tryz.prog 73 #[.slice a 0 c,.int .i64 s] w fun e w'=>e= .returned (.int .i64 s)∧w'=w:=by
 go_enter Tryz.func73,Tryz.ntmps73
 go_wp2
 go_loopw [1,5] (fun m j wr=>m= .int .i64 s∧j= .int .i64 0∧wr=w) (fun _ _ _=>0)
 case atStart=>exact⟨rfl,rfl,rfl⟩
 case round=>
  obtain⟨rfl,rfl,rfl⟩:=hrel
  go_wp2
  go_ret
  exact⟨rfl,rfl⟩
theorem heldNInstr(w:World)(a:Option Addr)(c:Nat)(s:Int):Calls Tryz.prog 79 #[.slice a 0 c,.int .i64 s] w fun e w'=>e= .returned (.int .i64 s)∧w'=w:=by
 go_enter Tryz.func79,Tryz.ntmps79
 go_wp2
 go_loopw [1,5] (fun m j wr=>m= .int .i64 s∧j= .int .i64 0∧wr=w) (fun _ _ _=>0)
 case atStart=>exact⟨rfl,rfl,rfl⟩
 case round=>
  obtain⟨rfl,rfl,rfl⟩:=hrel
  go_wp2
  go_ret
  exact⟨rfl,rfl⟩
theorem eqInstr(w:World)(x y:Ix)(hb:y.b=x.b)(hx:RdV w x)(hy:RdV w y):Calls Tryz.prog 67 #[.slice x.ai x.b.ic.length x.ci,.slice y.ai x.b.ic.length y.ci] w fun e w'=>e= .returned (.bool true)∧Below w.heap.size w w':=by
 by_cases z:x.b.ic.length=0
 ·rw[z]
  exact(eqNInstr w _ _ _ _).mono fun e w' ⟨h1,h2⟩=>⟨h1,by rw[h2];exact Below.refl _ _⟩
 ·obtain⟨g1,e1⟩:=hx.ei z
  obtain⟨g2,e2⟩:=hy.ei (by rw[hb];exact z)
  have a1:=hx.ri g1 e1
  have a2:=hy.ri g2 e2
  rw[hb] at a2
  rw[e1,e2]
  exact InstrHelp.eqS w g1 g2 _ _ _ x.b.ic rfl hx.ni a1.1 a2.1 a1.2 a2.2
theorem markInstr(w:World)(base n c:Nat)(a:Option Addr)(s:Int)(ps:List (Int×Int))(h20:n≤1048576)(s0:0≤s)(s1:s≤100000000)(ho:w.ownsRow base 130 2 (.slice a n c) n (Pairs.flat ps)):
  Calls Tryz.prog 73 #[.slice a n c,.int .i64 s] w fun e w'=>e= .returned (.int .i64 (s+2*(n:Int)))∧w'.ownsRow base 130 2 (.slice a n c) n (Pairs.flat (InstrMark.marks s n))∧w.grownBy w' (Value.slice a n c).ownBlock:=by
 have ho':=ho
 rcases ho.2 with⟨h1,h2⟩|⟨g,c',cur,h1,_⟩
 ·obtain⟨rfl,_,rfl⟩:a=none∧n=0∧c=0:=by simpa using h1
  subst h2
  exact(markNInstr w _ _ s).mono fun e w' ⟨q1,q2⟩=>⟨by rw[q1];simp,by rw[q2];exact World.ownsRow_nil w base _ _,by rw[q2];exact World.grownBy.refl _ _⟩
 ·obtain⟨rfl,rfl⟩:a=some ⟨g,0,none⟩∧c=c':=by simpa using h1
  exact InstrMark.markS w base g n c s ps h20 s0 s1 ho'
theorem heldInstr(w:World)(base n c:Nat)(a:Option Addr)(s:Int)(h20:n≤1048576)(s0:0≤s)(s1:s≤100000000)(ho:w.ownsRow base 130 2 (.slice a n c) n (Pairs.flat (InstrMark.marks s n))):
  Calls Tryz.prog 79 #[.slice a n c,.int .i64 s] w fun e w'=>e= .returned (.int .i64 (s+2*(n:Int)))∧w'=w:=by
 have ho':=ho
 rcases ho.2 with⟨h1,h2⟩|⟨g,c',cur,h1,_⟩
 ·obtain⟨rfl,_,rfl⟩:a=none∧n=0∧c=0:=by simpa using h1
  subst h2
  exact(heldNInstr w _ _ s).mono fun e w' ⟨q1,q2⟩=>⟨by rw[q1];simp,q2⟩
 ·obtain⟨rfl,rfl⟩:a=some ⟨g,0,none⟩∧c=c':=by simpa using h1
  exact InstrMark.heldS w g n c s h20 s0 s1 (Pairs.Own.at ho')
theorem eqNBal(w:World)(a1 a2:Option Addr)(c1 c2:Nat):Calls Tryz.prog 68 #[.slice a1 0 c1,.slice a2 0 c2] w fun e w'=>e= .returned (.bool true)∧w'=w:=by
 go_enter Tryz.func68,Tryz.ntmps68
 go_wp2
 go_loopw [5] (fun j wr=>j= .int .i64 0∧wr=w) (fun _ _=>0)
 case atStart=>exact⟨rfl,rfl⟩
 case round=>
  obtain⟨rfl,rfl⟩:=hrel
  go_wp2
  go_ret
  exact⟨rfl,rfl⟩
theorem markNBal(w:World)(a:Option Addr)(c:Nat)(s:Int):Calls Tryz.prog 74 #[.slice a 0 c,.int .i64 s] w fun e w'=>e= .returned (.int .i64 s)∧w'=w:=by
 go_enter Tryz.func74,Tryz.ntmps74
 go_wp2
 go_loopw [1,5] (fun m j wr=>m= .int .i64 s∧j= .int .i64 0∧wr=w) (fun _ _ _=>0)
 case atStart=>exact⟨rfl,rfl,rfl⟩
 case round=>
  obtain⟨rfl,rfl,rfl⟩:=hrel
  go_wp2
  go_ret
  exact⟨rfl,rfl⟩
theorem heldNBal(w:World)(a:Option Addr)(c:Nat)(s:Int):Calls Tryz.prog 80 #[.slice a 0 c,.int .i64 s] w fun e w'=>e= .returned (.int .i64 s)∧w'=w:=by
 go_enter Tryz.func80,Tryz.ntmps80
 go_wp2
 go_loopw [1,5] (fun m j wr=>m= .int .i64 s∧j= .int .i64 0∧wr=w) (fun _ _ _=>0)
 case atStart=>exact⟨rfl,rfl,rfl⟩
 case round=>
  obtain⟨rfl,rfl,rfl⟩:=hrel
  go_wp2
  go_ret
  exact⟨rfl,rfl⟩
theorem eqBal(w:World)(x y:Ix)(hb:y.b=x.b)(hx:RdV w x)(hy:RdV w y):Calls Tryz.prog 68 #[.slice x.ab x.b.bs.length x.cb,.slice y.ab x.b.bs.length y.cb] w fun e w'=>e= .returned (.bool true)∧Below w.heap.size w w':=by
 by_cases z:x.b.bs.length=0
 ·rw[z]
  exact(eqNBal w _ _ _ _).mono fun e w' ⟨h1,h2⟩=>⟨h1,by rw[h2];exact Below.refl _ _⟩
 ·obtain⟨g1,e1⟩:=hx.eb z
  obtain⟨g2,e2⟩:=hy.eb (by rw[hb];exact z)
  have a1:=hx.rb g1 e1
  have a2:=hy.rb g2 e2
  rw[hb] at a2
  rw[e1,e2]
  exact BalHelp.eqS w g1 g2 _ _ _ x.b.bs rfl hx.nb a1.1 a2.1 a1.2 a2.2
theorem markBal(w:World)(base n c:Nat)(a:Option Addr)(s:Int)(ps:List Bals.T3)(h20:n≤1048576)(s0:0≤s)(s1:s≤100000000)(ho:w.ownsRow base 132 3 (.slice a n c) n (Triples.flat3 ps)):
  Calls Tryz.prog 74 #[.slice a n c,.int .i64 s] w fun e w'=>e= .returned (.int .i64 (s+3*(n:Int)))∧w'.ownsRow base 132 3 (.slice a n c) n (Triples.flat3 (BalHelp.marks s n))∧w.grownBy w' (Value.slice a n c).ownBlock:=by
 have ho':=ho
 rcases ho.2 with⟨h1,h2⟩|⟨g,c',cur,h1,_⟩
 ·obtain⟨rfl,_,rfl⟩:a=none∧n=0∧c=0:=by simpa using h1
  subst h2
  exact(markNBal w _ _ s).mono fun e w' ⟨q1,q2⟩=>⟨by rw[q1];simp,by rw[q2];exact World.ownsRow_nil w base _ _,by rw[q2];exact World.grownBy.refl _ _⟩
 ·obtain⟨rfl,rfl⟩:a=some ⟨g,0,none⟩∧c=c':=by simpa using h1
  exact BalHelp.markS w base g n c s ps h20 s0 s1 ho'
theorem heldBal(w:World)(base n c:Nat)(a:Option Addr)(s:Int)(h20:n≤1048576)(s0:0≤s)(s1:s≤100000000)(ho:w.ownsRow base 132 3 (.slice a n c) n (Triples.flat3 (BalHelp.marks s n))):
  Calls Tryz.prog 80 #[.slice a n c,.int .i64 s] w fun e w'=>e= .returned (.int .i64 (s+3*(n:Int)))∧w'=w:=by
 have ho':=ho
 rcases ho.2 with⟨h1,h2⟩|⟨g,c',cur,h1,_⟩
 ·obtain⟨rfl,_,rfl⟩:a=none∧n=0∧c=0:=by simpa using h1
  subst h2
  exact(heldNBal w _ _ s).mono fun e w' ⟨q1,q2⟩=>⟨by rw[q1];simp,q2⟩
 ·obtain⟨rfl,rfl⟩:a=some ⟨g,0,none⟩∧c=c':=by simpa using h1
  exact BalHeld.heldS w g n c s h20 s0 s1 (Triples.Own3.at ho')
theorem eqNLot(w:World)(a1 a2:Option Addr)(c1 c2:Nat):Calls Tryz.prog 69 #[.slice a1 0 c1,.slice a2 0 c2] w fun e w'=>e= .returned (.bool true)∧w'=w:=by
 go_enter Tryz.func69,Tryz.ntmps69
 go_wp2
 go_loopw [5] (fun j wr=>j= .int .i64 0∧wr=w) (fun _ _=>0)
 case atStart=>exact⟨rfl,rfl⟩
 case round=>
  obtain⟨rfl,rfl⟩:=hrel
  go_wp2
  go_ret
  exact⟨rfl,rfl⟩
theorem markNLot(w:World)(a:Option Addr)(c:Nat)(s:Int):Calls Tryz.prog 75 #[.slice a 0 c,.int .i64 s] w fun e w'=>e= .returned (.int .i64 s)∧w'=w:=by
 go_enter Tryz.func75,Tryz.ntmps75
 go_wp2
 go_loopw [1,5] (fun m j wr=>m= .int .i64 s∧j= .int .i64 0∧wr=w) (fun _ _ _=>0)
 case atStart=>exact⟨rfl,rfl,rfl⟩
 case round=>
  obtain⟨rfl,rfl,rfl⟩:=hrel
  go_wp2
  go_ret
  exact⟨rfl,rfl⟩
theorem heldNLot(w:World)(a:Option Addr)(c:Nat)(s:Int):Calls Tryz.prog 81 #[.slice a 0 c,.int .i64 s] w fun e w'=>e= .returned (.int .i64 s)∧w'=w:=by
 go_enter Tryz.func81,Tryz.ntmps81
 go_wp2
 go_loopw [1,5] (fun m j wr=>m= .int .i64 s∧j= .int .i64 0∧wr=w) (fun _ _ _=>0)
 case atStart=>exact⟨rfl,rfl,rfl⟩
 case round=>
  obtain⟨rfl,rfl,rfl⟩:=hrel
  go_wp2
  go_ret
  exact⟨rfl,rfl⟩
theorem eqLot(w:World)(x y:Ix)(hb:y.b=x.b)(hx:RdV w x)(hy:RdV w y):Calls Tryz.prog 69 #[.slice x.al x.b.ls.length x.cl,.slice y.al x.b.ls.length y.cl] w fun e w'=>e= .returned (.bool true)∧Below w.heap.size w w':=by
 by_cases z:x.b.ls.length=0
 ·rw[z]
  exact(eqNLot w _ _ _ _).mono fun e w' ⟨h1,h2⟩=>⟨h1,by rw[h2];exact Below.refl _ _⟩
 ·obtain⟨g1,e1⟩:=hx.el z
  obtain⟨g2,e2⟩:=hy.el (by rw[hb];exact z)
  have a1:=hx.rl g1 e1
  have a2:=hy.rl g2 e2
  rw[hb] at a2
  rw[e1,e2]
  exact LotHelp.eqS w g1 g2 _ _ _ x.b.ls rfl hx.nl a1.1 a2.1 a1.2 a2.2
theorem markLot(w:World)(base n c:Nat)(a:Option Addr)(s:Int)(ps:List Tup5.T5)(h20:n≤1048576)(s0:0≤s)(s1:s≤100000000)(ho:w.ownsRow base 134 5 (.slice a n c) n (Tup5.flat5 ps)):
  Calls Tryz.prog 75 #[.slice a n c,.int .i64 s] w fun e w'=>e= .returned (.int .i64 (s+5*(n:Int)))∧w'.ownsRow base 134 5 (.slice a n c) n (Tup5.flat5 (LotHelp.marks s n))∧w.grownBy w' (Value.slice a n c).ownBlock:=by
 have ho':=ho
 rcases ho.2 with⟨h1,h2⟩|⟨g,c',cur,h1,_⟩
 ·obtain⟨rfl,_,rfl⟩:a=none∧n=0∧c=0:=by simpa using h1
  subst h2
  exact(markNLot w _ _ s).mono fun e w' ⟨q1,q2⟩=>⟨by rw[q1];simp,by rw[q2];exact World.ownsRow_nil w base _ _,by rw[q2];exact World.grownBy.refl _ _⟩
 ·obtain⟨rfl,rfl⟩:a=some ⟨g,0,none⟩∧c=c':=by simpa using h1
  exact LotHelp.markS w base g n c s ps h20 s0 s1 ho'
theorem heldLot(w:World)(base n c:Nat)(a:Option Addr)(s:Int)(h20:n≤1048576)(s0:0≤s)(s1:s≤100000000)(ho:w.ownsRow base 134 5 (.slice a n c) n (Tup5.flat5 (LotHelp.marks s n))):
  Calls Tryz.prog 81 #[.slice a n c,.int .i64 s] w fun e w'=>e= .returned (.int .i64 (s+5*(n:Int)))∧w'=w:=by
 have ho':=ho
 rcases ho.2 with⟨h1,h2⟩|⟨g,c',cur,h1,_⟩
 ·obtain⟨rfl,_,rfl⟩:a=none∧n=0∧c=0:=by simpa using h1
  subst h2
  exact(heldNLot w _ _ s).mono fun e w' ⟨q1,q2⟩=>⟨by rw[q1];simp,q2⟩
 ·obtain⟨rfl,rfl⟩:a=some ⟨g,0,none⟩∧c=c':=by simpa using h1
  exact LotHeld.heldS w g n c s h20 s0 s1 (Tup5.Own5.at ho')
theorem eqNTrade(w:World)(a1 a2:Option Addr)(c1 c2:Nat):Calls Tryz.prog 70 #[.slice a1 0 c1,.slice a2 0 c2] w fun e w'=>e= .returned (.bool true)∧w'=w:=by
 go_enter Tryz.func70,Tryz.ntmps70
 go_wp2
 go_loopw [5] (fun j wr=>j= .int .i64 0∧wr=w) (fun _ _=>0)
 case atStart=>exact⟨rfl,rfl⟩
 case round=>
  obtain⟨rfl,rfl⟩:=hrel
  go_wp2
  go_ret
  exact⟨rfl,rfl⟩
theorem markNTrade(w:World)(a:Option Addr)(c:Nat)(s:Int):Calls Tryz.prog 76 #[.slice a 0 c,.int .i64 s] w fun e w'=>e= .returned (.int .i64 s)∧w'=w:=by
 go_enter Tryz.func76,Tryz.ntmps76
 go_wp2
 go_loopw [1,5] (fun m j wr=>m= .int .i64 s∧j= .int .i64 0∧wr=w) (fun _ _ _=>0)
 case atStart=>exact⟨rfl,rfl,rfl⟩
 case round=>
  obtain⟨rfl,rfl,rfl⟩:=hrel
  go_wp2
  go_ret
  exact⟨rfl,rfl⟩
theorem heldNTrade(w:World)(a:Option Addr)(c:Nat)(s:Int):Calls Tryz.prog 82 #[.slice a 0 c,.int .i64 s] w fun e w'=>e= .returned (.int .i64 s)∧w'=w:=by
 go_enter Tryz.func82,Tryz.ntmps82
 go_wp2
 go_loopw [1,5] (fun m j wr=>m= .int .i64 s∧j= .int .i64 0∧wr=w) (fun _ _ _=>0)
 case atStart=>exact⟨rfl,rfl,rfl⟩
 case round=>
  obtain⟨rfl,rfl,rfl⟩:=hrel
  go_wp2
  go_ret
  exact⟨rfl,rfl⟩
theorem eqTrade(w:World)(x y:Ix)(hb:y.b=x.b)(hx:RdV w x)(hy:RdV w y):Calls Tryz.prog 70 #[.slice x.ats x.b.ts.length x.ct,.slice y.ats x.b.ts.length y.ct] w fun e w'=>e= .returned (.bool true)∧Below w.heap.size w w':=by
 by_cases z:x.b.ts.length=0
 ·rw[z]
  exact(eqNTrade w _ _ _ _).mono fun e w' ⟨h1,h2⟩=>⟨h1,by rw[h2];exact Below.refl _ _⟩
 ·obtain⟨g1,e1⟩:=hx.et z
  obtain⟨g2,e2⟩:=hy.et (by rw[hb];exact z)
  have a1:=hx.rt g1 e1
  have a2:=hy.rt g2 e2
  rw[hb] at a2
  rw[e1,e2]
  exact TradeHelp.eqS w g1 g2 _ _ _ x.b.ts rfl hx.nt a1.1 a2.1 a1.2 a2.2
theorem markTrade(w:World)(base n c:Nat)(a:Option Addr)(s:Int)(ps:List Tup8.T8)(h20:n≤1048576)(s0:0≤s)(s1:s≤100000000)(ho:w.ownsRow base 136 8 (.slice a n c) n (Tup8.flat8 ps)):
  Calls Tryz.prog 76 #[.slice a n c,.int .i64 s] w fun e w'=>e= .returned (.int .i64 (s+8*(n:Int)))∧w'.ownsRow base 136 8 (.slice a n c) n (Tup8.flat8 (TradeHelp.marks s n))∧w.grownBy w' (Value.slice a n c).ownBlock:=by
 have ho':=ho
 rcases ho.2 with⟨h1,h2⟩|⟨g,c',cur,h1,_⟩
 ·obtain⟨rfl,_,rfl⟩:a=none∧n=0∧c=0:=by simpa using h1
  subst h2
  exact(markNTrade w _ _ s).mono fun e w' ⟨q1,q2⟩=>⟨by rw[q1];simp,by rw[q2];exact World.ownsRow_nil w base _ _,by rw[q2];exact World.grownBy.refl _ _⟩
 ·obtain⟨rfl,rfl⟩:a=some ⟨g,0,none⟩∧c=c':=by simpa using h1
  exact TradeHelp.markS w base g n c s ps h20 s0 s1 ho'
theorem heldTrade(w:World)(base n c:Nat)(a:Option Addr)(s:Int)(h20:n≤1048576)(s0:0≤s)(s1:s≤100000000)(ho:w.ownsRow base 136 8 (.slice a n c) n (Tup8.flat8 (TradeHelp.marks s n))):
  Calls Tryz.prog 82 #[.slice a n c,.int .i64 s] w fun e w'=>e= .returned (.int .i64 (s+8*(n:Int)))∧w'=w:=by
 have ho':=ho
 rcases ho.2 with⟨h1,h2⟩|⟨g,c',cur,h1,_⟩
 ·obtain⟨rfl,_,rfl⟩:a=none∧n=0∧c=0:=by simpa using h1
  subst h2
  exact(heldNTrade w _ _ s).mono fun e w' ⟨q1,q2⟩=>⟨by rw[q1];simp,q2⟩
 ·obtain⟨rfl,rfl⟩:a=some ⟨g,0,none⟩∧c=c':=by simpa using h1
  exact TradeHeld.heldS w g n c s h20 s0 s1 (Tup8.Own8.at ho')
structure TwoV(w W:World)(x y:Ix):Prop where
 rx:RdV W x
 ry:RdV W y
 cx:ClV W w.heap.size x
 cy:ClV W (w.heap.size+1) y
 b:Below w.heap.size w W
 s:w.heap.size+1<W.heap.size
theorem TwoV.step{w W W':World}{x y:Ix}(h:TwoV w W x y)(k:Below W.heap.size W W'):TwoV w W' x y:=
 ⟨h.rx.below k,h.ry.below k,h.cx.below k (by have:=h.s;omega),h.cy.below k h.s,h.b.trans (k.mono h.b.size),Nat.lt_of_lt_of_le h.s k.size⟩
theorem boxedV(w:World)(x:Ix)(e:TypeId):ClV (w.alloc (.cells #[.slice x.aa x.b.ac.length x.ca,.slice x.ai x.b.ic.length x.ci,.slice x.ab x.b.bs.length x.cb,.slice x.al x.b.ls.length x.cl,.slice x.ats x.b.ts.length x.ct,.int .i64 x.b.lot] e)) w.heap.size x:=⟨by simp,by simp,by simp,by simp,by simp,by simp⟩
theorem TwoV.start{w:World}{x y:Ix}(hx:RdV w x)(hy:RdV w y)(e:TypeId):TwoV w ((w.alloc (.cells #[.slice x.aa x.b.ac.length x.ca,.slice x.ai x.b.ic.length x.ci,.slice x.ab x.b.bs.length x.cb,.slice x.al x.b.ls.length x.cl,.slice x.ats x.b.ts.length x.ct,.int .i64 x.b.lot] e)).alloc (.cells #[.slice y.aa y.b.ac.length y.ca,.slice y.ai y.b.ic.length y.ci,.slice y.ab y.b.bs.length y.cb,.slice y.al y.b.ls.length y.cl,.slice y.ats y.b.ts.length y.ct,.int .i64 y.b.lot] e)) x y:=by
 have c:=boxedV (w.alloc (.cells #[.slice x.aa x.b.ac.length x.ca,.slice x.ai x.b.ic.length x.ci,.slice x.ab x.b.bs.length x.cb,.slice x.al x.b.ls.length x.cl,.slice x.ats x.b.ts.length x.ct,.int .i64 x.b.lot] e)) y e
 have s:(w.alloc (.cells #[.slice x.aa x.b.ac.length x.ca,.slice x.ai x.b.ic.length x.ci,.slice x.ab x.b.bs.length x.cb,.slice x.al x.b.ls.length x.cl,.slice x.ats x.b.ts.length x.ct,.int .i64 x.b.lot] e)).heap.size=w.heap.size+1:=by simp
 rw[s] at c
 have b1:=one_more w (.cells #[.slice x.aa x.b.ac.length x.ca,.slice x.ai x.b.ic.length x.ci,.slice x.ab x.b.bs.length x.cb,.slice x.al x.b.ls.length x.cl,.slice x.ats x.b.ts.length x.ct,.int .i64 x.b.lot] e)
 have b2:=one_more (w.alloc (.cells #[.slice x.aa x.b.ac.length x.ca,.slice x.ai x.b.ic.length x.ci,.slice x.ab x.b.bs.length x.cb,.slice x.al x.b.ls.length x.cl,.slice x.ats x.b.ts.length x.ct,.int .i64 x.b.lot] e)) (.cells #[.slice y.aa y.b.ac.length y.ca,.slice y.ai y.b.ic.length y.ci,.slice y.ab y.b.bs.length y.cb,.slice y.al y.b.ls.length y.cl,.slice y.ats y.b.ts.length y.ct,.int .i64 y.b.lot] e)
 exact⟨(hx.below b1).below b2,(hy.below b1).below b2,(boxedV w x e).below b2 (by simp),c,b1.trans (b2.mono b1.size),by simp⟩
theorem eqBV(w:World)(x y:Ix)(hb:y.b=x.b)(hx:RdV w x)(hy:RdV w y):
  Calls Tryz.prog 24 #[.agg #[.slice x.aa x.b.ac.length x.ca,.slice x.ai x.b.ic.length x.ci,.slice x.ab x.b.bs.length x.cb,.slice x.al x.b.ls.length x.cl,.slice x.ats x.b.ts.length x.ct,.int .i64 x.b.lot],.agg #[.slice y.aa y.b.ac.length y.ca,.slice y.ai y.b.ic.length y.ci,.slice y.ab y.b.bs.length y.cb,.slice y.al y.b.ls.length y.cl,.slice y.ats y.b.ts.length y.ct,.int .i64 y.b.lot]] w fun e w'=>e= .returned (.bool true)∧Below w.heap.size w w':=by
 have T0:=zh (TwoV.start hx hy 44)
 have HB:=zh hb
 obtain⟨aa,ca,ai,ci,ab,cb,al,cl,ats,ct,b⟩:=y
 obtain rfl:b=x.b:=hb
 clear hx hy
 go_enter Tryz.func24,Tryz.ntmps24
 go_wp2_with fail
 refine(eqAccount _ x ⟨aa,ca,ai,ci,ab,cb,al,cl,ats,ct,x.b⟩ rfl (zu T0).rx (zu T0).ry).mono ?_
 rintro e w1 ⟨rfl,bb⟩
 have T1:=zh ((zu T0).step bb)
 clear bb
 have p1:=(zu T1).cx.c1
 have r1:=(zu T1).cy.c1
 go_wp2_with fail
 refine(eqInstr _ x ⟨aa,ca,ai,ci,ab,cb,al,cl,ats,ct,x.b⟩ rfl (zu T1).rx (zu T1).ry).mono ?_
 rintro e w2 ⟨rfl,bb⟩
 have T2:=zh ((zu T1).step bb)
 clear bb
 have p2:=(zu T2).cx.c2
 have r2:=(zu T2).cy.c2
 go_wp2_with fail
 refine(eqBal _ x ⟨aa,ca,ai,ci,ab,cb,al,cl,ats,ct,x.b⟩ rfl (zu T2).rx (zu T2).ry).mono ?_
 rintro e w3 ⟨rfl,bb⟩
 have T3:=zh ((zu T2).step bb)
 clear bb
 have p3:=(zu T3).cx.c3
 have r3:=(zu T3).cy.c3
 go_wp2_with fail
 refine(eqLot _ x ⟨aa,ca,ai,ci,ab,cb,al,cl,ats,ct,x.b⟩ rfl (zu T3).rx (zu T3).ry).mono ?_
 rintro e w4 ⟨rfl,bb⟩
 have T4:=zh ((zu T3).step bb)
 clear bb
 have p4:=(zu T4).cx.c4
 have r4:=(zu T4).cy.c4
 go_wp2_with fail
 refine(eqTrade _ x ⟨aa,ca,ai,ci,ab,cb,al,cl,ats,ct,x.b⟩ rfl (zu T4).rx (zu T4).ry).mono ?_
 rintro e w5 ⟨rfl,bb⟩
 have T5:=zh ((zu T4).step bb)
 clear bb
 have p5:=(zu T5).cx.c5
 have r5:=(zu T5).cy.c5
 go_wp2
 go_ret
 exact⟨rfl,(zu T5).b⟩
end VB13
namespace SCopy
open BMem Bks ILists Copy
open BHelp (row_apart row_store)
open IBalsFit (one_more)
theorem wpl_append{P:Program}{ops:Array Oper}{rest:List Oper}{o:Oper}{a:Act}{u w':World}{Q:Exit→Act→World→Prop}(hgd:o.guard=none)(s x:Operand)(T:TypeId)(ho:o.op= .call {callee:= .builtin .append,args:= #[s,x],argTypes:= #[T,T]}){vs vx v':Value}(hs:a.eval s=vs)(hx:a.eval x=vx)
  (hr:(Builtin.append_ #[T,T] o.type #[vs,vx]).run P u= .ok v' w')(h:wpList P ops Q rest (a.put o.dst v') w'):wpList P ops Q (o::rest) a u:=
 wpList_plain hgd fun K hK=>wpo_append s x T ho hs hx hr (hK _ _ h)
theorem empty_made(W:World)(base:Nat)(e:TypeId)(size g:Nat)(hg:g=W.heap.size)(hb:base≤g):(W.alloc (.cells #[] e)).ownsRow base e size (.slice (some ⟨g,0,none⟩) 0 0) 0 []:=by
 subst hg
 exact World.ownsRow_made W #[] 0 hb (by unfold maxLen;omega) (by simp)
theorem row_kept{w w':World}{base:Nat}{e:TypeId}{size g n cap g0:Nat}{xs:List Value}(h:w.ownsRow base e size (.slice (some ⟨g,0,none⟩) n cap) n xs)(k:w.grownBy w' (some g0))(ne:g≠g0):w'.ownsRow base e size (.slice (some ⟨g,0,none⟩) n cap) n xs:=
 h.kept k (Or.inr (fun e=>ne (by simpa[Value.ownBlock] using e)))
structure TC(w W:World)(x:Bx)(v0 v1 v2 v3 v4 v5:Value):Prop where
 b:Below w.heap.size w W
 c:Cl W w.heap.size x
 o:Box W w.heap.size (w.heap.size+1+1) v0 v1 v2 v3 v4 v5
 r:Box W w.heap.size (w.heap.size+1) (.slice none 0 0) (.slice none 0 0) (.slice none 0 0) (.slice none 0 0) (.slice none 0 0) (.int .i64 0)
section
variable {w W W':World} {x:Bx} {v0 v1 v2 v3 v4 v5:Value}
theorem TC.call(h:TC w W x v0 v1 v2 v3 v4 v5)(k:Below W.heap.size W W'):TC w W' x v0 v1 v2 v3 v4 v5:=by
 have l:=h.o.lt
 exact⟨h.b.trans (k.mono h.b.size),h.c.below k (by omega),h.o.below k (by omega),h.r.below k (by omega)⟩
theorem TC.grown{g:Nat}(h:TC w W x v0 v1 v2 v3 v4 v5)(k:W.grownBy W' (some g))(hg:w.heap.size+3≤g):TC w W' x v0 v1 v2 v3 v4 v5:=by
 have n0:some w.heap.size≠some g:=fun e=>by injection e;omega
 exact⟨h.b.grown k h.b.size (fun j e=>by injection e;omega),⟨k.cell h.c.c0 n0,k.cell h.c.c1 n0,k.cell h.c.c2 n0,k.cell h.c.c3 n0,k.cell h.c.c4 n0,k.cell h.c.c5 n0⟩,h.o.kept k (fun e=>by injection e;omega),h.r.kept k (fun e=>by injection e;omega)⟩
theorem TC.set0(h:TC w W x v0 v1 v2 v3 v4 v5)(u:Value):TC w (W.setCell ⟨w.heap.size+1+1,0,none⟩ u) x u v1 v2 v3 v4 v5:=by
 obtain⟨b,g⟩:=h.o.set0 u
 have n0:some w.heap.size≠some (w.heap.size+1+1):=fun e=>by injection e;omega
 exact⟨h.b.setCell (by simp;omega) u,⟨g.cell h.c.c0 n0,g.cell h.c.c1 n0,g.cell h.c.c2 n0,g.cell h.c.c3 n0,g.cell h.c.c4 n0,g.cell h.c.c5 n0⟩,b,h.r.kept g (fun e=>by injection e;omega)⟩
theorem TC.set1(h:TC w W x v0 v1 v2 v3 v4 v5)(u:Value):TC w (W.setCell ⟨w.heap.size+1+1,1,none⟩ u) x v0 u v2 v3 v4 v5:=by
 obtain⟨b,g⟩:=h.o.set1 u
 have n0:some w.heap.size≠some (w.heap.size+1+1):=fun e=>by injection e;omega
 exact⟨h.b.setCell (by simp;omega) u,⟨g.cell h.c.c0 n0,g.cell h.c.c1 n0,g.cell h.c.c2 n0,g.cell h.c.c3 n0,g.cell h.c.c4 n0,g.cell h.c.c5 n0⟩,b,h.r.kept g (fun e=>by injection e;omega)⟩
theorem TC.set2(h:TC w W x v0 v1 v2 v3 v4 v5)(u:Value):TC w (W.setCell ⟨w.heap.size+1+1,2,none⟩ u) x v0 v1 u v3 v4 v5:=by
 obtain⟨b,g⟩:=h.o.set2 u
 have n0:some w.heap.size≠some (w.heap.size+1+1):=fun e=>by injection e;omega
 exact⟨h.b.setCell (by simp;omega) u,⟨g.cell h.c.c0 n0,g.cell h.c.c1 n0,g.cell h.c.c2 n0,g.cell h.c.c3 n0,g.cell h.c.c4 n0,g.cell h.c.c5 n0⟩,b,h.r.kept g (fun e=>by injection e;omega)⟩
theorem TC.set3(h:TC w W x v0 v1 v2 v3 v4 v5)(u:Value):TC w (W.setCell ⟨w.heap.size+1+1,3,none⟩ u) x v0 v1 v2 u v4 v5:=by
 obtain⟨b,g⟩:=h.o.set3 u
 have n0:some w.heap.size≠some (w.heap.size+1+1):=fun e=>by injection e;omega
 exact⟨h.b.setCell (by simp;omega) u,⟨g.cell h.c.c0 n0,g.cell h.c.c1 n0,g.cell h.c.c2 n0,g.cell h.c.c3 n0,g.cell h.c.c4 n0,g.cell h.c.c5 n0⟩,b,h.r.kept g (fun e=>by injection e;omega)⟩
theorem TC.set4(h:TC w W x v0 v1 v2 v3 v4 v5)(u:Value):TC w (W.setCell ⟨w.heap.size+1+1,4,none⟩ u) x v0 v1 v2 v3 u v5:=by
 obtain⟨b,g⟩:=h.o.set4 u
 have n0:some w.heap.size≠some (w.heap.size+1+1):=fun e=>by injection e;omega
 exact⟨h.b.setCell (by simp;omega) u,⟨g.cell h.c.c0 n0,g.cell h.c.c1 n0,g.cell h.c.c2 n0,g.cell h.c.c3 n0,g.cell h.c.c4 n0,g.cell h.c.c5 n0⟩,b,h.r.kept g (fun e=>by injection e;omega)⟩
end
theorem sCopy(w:World)(x:Bx)(h:Rd w x):
  Calls Tryz.prog 49 #[.agg #[.slice (some ⟨x.ga,0,none⟩) x.b.ac.length x.ca,.slice (some ⟨x.gi,0,none⟩) x.b.ic.length x.ci,.slice (some ⟨x.gb,0,none⟩) x.b.bs.length x.cb,.slice (some ⟨x.gl,0,none⟩) x.b.ls.length x.cl,.slice (some ⟨x.gt,0,none⟩) x.b.ts.length x.ct,.int .i64 x.b.lot]] w fun e w'=>∃z:Bx,z.b=x.b∧e= .returned (.agg #[.slice (some ⟨z.ga,0,none⟩) z.b.ac.length z.ca,.slice (some ⟨z.gi,0,none⟩) z.b.ic.length z.ci,.slice (some ⟨z.gb,0,none⟩) z.b.bs.length z.cb,.slice (some ⟨z.gl,0,none⟩) z.b.ls.length z.cl,.slice (some ⟨z.gt,0,none⟩) z.b.ts.length z.ct,.int .i64 z.b.lot])∧Ow w' w.heap.size z∧Below w.heap.size w w':=by
 have H:=zh h
 have na:=h.na
 have ni:=h.ni
 have nb:=h.nb
 have nl:=h.nl
 have nt:=h.nt
 have T0:=zh (show TC w (((w.alloc (.cells #[.slice (some ⟨x.ga,0,none⟩) x.b.ac.length x.ca,.slice (some ⟨x.gi,0,none⟩) x.b.ic.length x.ci,.slice (some ⟨x.gb,0,none⟩) x.b.bs.length x.cb,.slice (some ⟨x.gl,0,none⟩) x.b.ls.length x.cl,.slice (some ⟨x.gt,0,none⟩) x.b.ts.length x.ct,.int .i64 x.b.lot] 44)).alloc (.cells #[.slice none 0 0,.slice none 0 0,.slice none 0 0,.slice none 0 0,.slice none 0 0,.int .i64 0] 44)).alloc (.cells #[.slice none 0 0,.slice none 0 0,.slice none 0 0,.slice none 0 0,.slice none 0 0,.int .i64 x.b.lot] 44)) x (.slice none 0 0) (.slice none 0 0) (.slice none 0 0) (.slice none 0 0) (.slice none 0 0) (.int .i64 x.b.lot) from by
  have b2:Below (w.alloc (.cells #[.slice (some ⟨x.ga,0,none⟩) x.b.ac.length x.ca,.slice (some ⟨x.gi,0,none⟩) x.b.ic.length x.ci,.slice (some ⟨x.gb,0,none⟩) x.b.bs.length x.cb,.slice (some ⟨x.gl,0,none⟩) x.b.ls.length x.cl,.slice (some ⟨x.gt,0,none⟩) x.b.ts.length x.ct,.int .i64 x.b.lot] 44)).heap.size (w.alloc (.cells #[.slice (some ⟨x.ga,0,none⟩) x.b.ac.length x.ca,.slice (some ⟨x.gi,0,none⟩) x.b.ic.length x.ci,.slice (some ⟨x.gb,0,none⟩) x.b.bs.length x.cb,.slice (some ⟨x.gl,0,none⟩) x.b.ls.length x.cl,.slice (some ⟨x.gt,0,none⟩) x.b.ts.length x.ct,.int .i64 x.b.lot] 44)) (((w.alloc (.cells #[.slice (some ⟨x.ga,0,none⟩) x.b.ac.length x.ca,.slice (some ⟨x.gi,0,none⟩) x.b.ic.length x.ci,.slice (some ⟨x.gb,0,none⟩) x.b.bs.length x.cb,.slice (some ⟨x.gl,0,none⟩) x.b.ls.length x.cl,.slice (some ⟨x.gt,0,none⟩) x.b.ts.length x.ct,.int .i64 x.b.lot] 44)).alloc (.cells #[.slice none 0 0,.slice none 0 0,.slice none 0 0,.slice none 0 0,.slice none 0 0,.int .i64 0] 44)).alloc (.cells #[.slice none 0 0,.slice none 0 0,.slice none 0 0,.slice none 0 0,.slice none 0 0,.int .i64 x.b.lot] 44)):=((Below.refl _ _).alloc (Nat.le_refl _) _).alloc (by simp) _
  exact⟨((Below.refl w.heap.size w).alloc (Nat.le_refl _) _).trans (b2.mono (by simp)),(boxed w x 44).below b2 (by simp),Box.made _ _ _ _ _ _ (by simp;omega) (by simp),(Box.made (w:=w.alloc (.cells #[.slice (some ⟨x.ga,0,none⟩) x.b.ac.length x.ca,.slice (some ⟨x.gi,0,none⟩) x.b.ic.length x.ci,.slice (some ⟨x.gb,0,none⟩) x.b.bs.length x.cb,.slice (some ⟨x.gl,0,none⟩) x.b.ls.length x.cl,.slice (some ⟨x.gt,0,none⟩) x.b.ts.length x.ct,.int .i64 x.b.lot] 44)) (g:=w.heap.size+1) _ _ _ _ _ _ (by simp) (by simp)).below (one_more _ _) (by simp)⟩)
 clear h
 have A0:=zh ((zu T0).call (one_more _ (.cells #[] 129)))
 have z0:w.heap.size+3≤w.heap.size+1+1+1:=by have:=(zu T0).o.lt;simp at this⊢;try omega
 obtain⟨g0,c0',w1,hr0,ow0,gr0,_⟩:=copyAccount ((((w.alloc (.cells #[.slice (some ⟨x.ga,0,none⟩) x.b.ac.length x.ca,.slice (some ⟨x.gi,0,none⟩) x.b.ic.length x.ci,.slice (some ⟨x.gb,0,none⟩) x.b.bs.length x.cb,.slice (some ⟨x.gl,0,none⟩) x.b.ls.length x.cl,.slice (some ⟨x.gt,0,none⟩) x.b.ts.length x.ct,.int .i64 x.b.lot] 44)).alloc (.cells #[.slice none 0 0,.slice none 0 0,.slice none 0 0,.slice none 0 0,.slice none 0 0,.int .i64 0] 44)).alloc (.cells #[.slice none 0 0,.slice none 0 0,.slice none 0 0,.slice none 0 0,.slice none 0 0,.int .i64 x.b.lot] 44)).alloc (.cells #[] 129)) (w.heap.size+3) (w.heap.size+1+1+1) 0 (empty_made (((w.alloc (.cells #[.slice (some ⟨x.ga,0,none⟩) x.b.ac.length x.ca,.slice (some ⟨x.gi,0,none⟩) x.b.ic.length x.ci,.slice (some ⟨x.gb,0,none⟩) x.b.bs.length x.cb,.slice (some ⟨x.gl,0,none⟩) x.b.ls.length x.cl,.slice (some ⟨x.gt,0,none⟩) x.b.ts.length x.ct,.int .i64 x.b.lot] 44)).alloc (.cells #[.slice none 0 0,.slice none 0 0,.slice none 0 0,.slice none 0 0,.slice none 0 0,.int .i64 0] 44)).alloc (.cells #[.slice none 0 0,.slice none 0 0,.slice none 0 0,.slice none 0 0,.slice none 0 0,.int .i64 x.b.lot] 44)) _ _ _ _ (by simp) z0) 38 x.ga x.ca x.b.ac ((zu H).below (zu A0).b).ra na (by have:=(zu A0).o.lt;omega)
 have G0:=zh ((zu A0).grown gr0 z0)
 have O0:=zh (show Pairs.Own 129 w1 (w.heap.size+3) g0 x.b.ac.length c0' x.b.ac from ow0)
 have T1:=zh ((zu G0).set0 (.slice (some ⟨g0,0,none⟩) x.b.ac.length c0'))
 have p0:=(zu G0).o.c0
 have f0:=(zu G0).o.free 0
 have A1:=zh ((zu T1).call (one_more _ (.cells #[] 130)))
 have z1:w.heap.size+3≤w1.heap.size:=by have:=(zu T1).o.lt;simp[World.setCell] at this⊢;try omega
 obtain⟨g1,c1',w2,hr1,ow1,gr1,_⟩:=copyInstr ((w1.setCell ⟨w.heap.size+1+1,0,none⟩ (.slice (some ⟨g0,0,none⟩) x.b.ac.length c0')).alloc (.cells #[] 130)) (w.heap.size+3) (w1.heap.size) 0 (empty_made (w1.setCell ⟨w.heap.size+1+1,0,none⟩ (.slice (some ⟨g0,0,none⟩) x.b.ac.length c0')) _ _ _ _ (by simp[World.setCell]) z1) 39 x.gi x.ci x.b.ic ((zu H).below (zu A1).b).ri ni (by have:=(zu A1).o.lt;omega)
 have G1:=zh ((zu A1).grown gr1 z1)
 have O1:=zh (show Pairs.Own 130 w2 (w.heap.size+3) g1 x.b.ic.length c1' x.b.ic from ow1)
 replace O0:=zh (show Pairs.Own 129 w2 (w.heap.size+3) g0 x.b.ac.length c0' x.b.ac from row_kept (World.ownsRow.alloc (row_store (zu O0) (a:=⟨w.heap.size+1+1,0,none⟩) (by simp) (.slice (some ⟨g0,0,none⟩) x.b.ac.length c0')) _) gr1 (by have h1:=World.ownsRow.lt (zu O0) g0 rfl;omega))
 have T2:=zh ((zu G1).set1 (.slice (some ⟨g1,0,none⟩) x.b.ic.length c1'))
 have p1:=(zu G1).o.c1
 have f1:=(zu G1).o.free 1
 have s1:=(zu A1).c.c1
 have A2:=zh ((zu T2).call (one_more _ (.cells #[] 132)))
 have z2:w.heap.size+3≤w2.heap.size:=by have:=(zu T2).o.lt;simp[World.setCell] at this⊢;try omega
 obtain⟨g2,c2',w3,hr2,ow2,gr2,_⟩:=copyBal ((w2.setCell ⟨w.heap.size+1+1,1,none⟩ (.slice (some ⟨g1,0,none⟩) x.b.ic.length c1')).alloc (.cells #[] 132)) (w.heap.size+3) (w2.heap.size) 0 (empty_made (w2.setCell ⟨w.heap.size+1+1,1,none⟩ (.slice (some ⟨g1,0,none⟩) x.b.ic.length c1')) _ _ _ _ (by simp[World.setCell]) z2) 40 x.gb x.cb x.b.bs ((zu H).below (zu A2).b).rb nb (by have:=(zu A2).o.lt;omega)
 have G2:=zh ((zu A2).grown gr2 z2)
 have O2:=zh (show Triples.Own3 132 w3 (w.heap.size+3) g2 x.b.bs.length c2' x.b.bs from ow2)
 replace O0:=zh (show Pairs.Own 129 w3 (w.heap.size+3) g0 x.b.ac.length c0' x.b.ac from row_kept (World.ownsRow.alloc (row_store (zu O0) (a:=⟨w.heap.size+1+1,1,none⟩) (by simp) (.slice (some ⟨g1,0,none⟩) x.b.ic.length c1')) _) gr2 (by have h1:=World.ownsRow.lt (zu O0) g0 rfl;omega))
 replace O1:=zh (show Pairs.Own 130 w3 (w.heap.size+3) g1 x.b.ic.length c1' x.b.ic from row_kept (World.ownsRow.alloc (row_store (zu O1) (a:=⟨w.heap.size+1+1,1,none⟩) (by simp) (.slice (some ⟨g1,0,none⟩) x.b.ic.length c1')) _) gr2 (by have h1:=World.ownsRow.lt (zu O1) g1 rfl;omega))
 have T3:=zh ((zu G2).set2 (.slice (some ⟨g2,0,none⟩) x.b.bs.length c2'))
 have p2:=(zu G2).o.c2
 have f2:=(zu G2).o.free 2
 have s2:=(zu A2).c.c2
 have A3:=zh ((zu T3).call (one_more _ (.cells #[] 134)))
 have z3:w.heap.size+3≤w3.heap.size:=by have:=(zu T3).o.lt;simp[World.setCell] at this⊢;try omega
 obtain⟨g3,c3',w4,hr3,ow3,gr3,_⟩:=copyLot ((w3.setCell ⟨w.heap.size+1+1,2,none⟩ (.slice (some ⟨g2,0,none⟩) x.b.bs.length c2')).alloc (.cells #[] 134)) (w.heap.size+3) (w3.heap.size) 0 (empty_made (w3.setCell ⟨w.heap.size+1+1,2,none⟩ (.slice (some ⟨g2,0,none⟩) x.b.bs.length c2')) _ _ _ _ (by simp[World.setCell]) z3) 41 x.gl x.cl x.b.ls ((zu H).below (zu A3).b).rl nl (by have:=(zu A3).o.lt;omega)
 have G3:=zh ((zu A3).grown gr3 z3)
 have O3:=zh (show Tup5.Own5 134 w4 (w.heap.size+3) g3 x.b.ls.length c3' x.b.ls from ow3)
 replace O0:=zh (show Pairs.Own 129 w4 (w.heap.size+3) g0 x.b.ac.length c0' x.b.ac from row_kept (World.ownsRow.alloc (row_store (zu O0) (a:=⟨w.heap.size+1+1,2,none⟩) (by simp) (.slice (some ⟨g2,0,none⟩) x.b.bs.length c2')) _) gr3 (by have h1:=World.ownsRow.lt (zu O0) g0 rfl;omega))
 replace O1:=zh (show Pairs.Own 130 w4 (w.heap.size+3) g1 x.b.ic.length c1' x.b.ic from row_kept (World.ownsRow.alloc (row_store (zu O1) (a:=⟨w.heap.size+1+1,2,none⟩) (by simp) (.slice (some ⟨g2,0,none⟩) x.b.bs.length c2')) _) gr3 (by have h1:=World.ownsRow.lt (zu O1) g1 rfl;omega))
 replace O2:=zh (show Triples.Own3 132 w4 (w.heap.size+3) g2 x.b.bs.length c2' x.b.bs from row_kept (World.ownsRow.alloc (row_store (zu O2) (a:=⟨w.heap.size+1+1,2,none⟩) (by simp) (.slice (some ⟨g2,0,none⟩) x.b.bs.length c2')) _) gr3 (by have h1:=World.ownsRow.lt (zu O2) g2 rfl;omega))
 have T4:=zh ((zu G3).set3 (.slice (some ⟨g3,0,none⟩) x.b.ls.length c3'))
 have p3:=(zu G3).o.c3
 have f3:=(zu G3).o.free 3
 have s3:=(zu A3).c.c3
 have A4:=zh ((zu T4).call (one_more _ (.cells #[] 136)))
 have z4:w.heap.size+3≤w4.heap.size:=by have:=(zu T4).o.lt;simp[World.setCell] at this⊢;try omega
 obtain⟨g4,c4',w5,hr4,ow4,gr4,_⟩:=copyTrade ((w4.setCell ⟨w.heap.size+1+1,3,none⟩ (.slice (some ⟨g3,0,none⟩) x.b.ls.length c3')).alloc (.cells #[] 136)) (w.heap.size+3) (w4.heap.size) 0 (empty_made (w4.setCell ⟨w.heap.size+1+1,3,none⟩ (.slice (some ⟨g3,0,none⟩) x.b.ls.length c3')) _ _ _ _ (by simp[World.setCell]) z4) 42 x.gt x.ct x.b.ts ((zu H).below (zu A4).b).rt nt (by have:=(zu A4).o.lt;omega)
 have G4:=zh ((zu A4).grown gr4 z4)
 have O4:=zh (show Tup8.Own8 136 w5 (w.heap.size+3) g4 x.b.ts.length c4' x.b.ts from ow4)
 replace O0:=zh (show Pairs.Own 129 w5 (w.heap.size+3) g0 x.b.ac.length c0' x.b.ac from row_kept (World.ownsRow.alloc (row_store (zu O0) (a:=⟨w.heap.size+1+1,3,none⟩) (by simp) (.slice (some ⟨g3,0,none⟩) x.b.ls.length c3')) _) gr4 (by have h1:=World.ownsRow.lt (zu O0) g0 rfl;omega))
 replace O1:=zh (show Pairs.Own 130 w5 (w.heap.size+3) g1 x.b.ic.length c1' x.b.ic from row_kept (World.ownsRow.alloc (row_store (zu O1) (a:=⟨w.heap.size+1+1,3,none⟩) (by simp) (.slice (some ⟨g3,0,none⟩) x.b.ls.length c3')) _) gr4 (by have h1:=World.ownsRow.lt (zu O1) g1 rfl;omega))
 replace O2:=zh (show Triples.Own3 132 w5 (w.heap.size+3) g2 x.b.bs.length c2' x.b.bs from row_kept (World.ownsRow.alloc (row_store (zu O2) (a:=⟨w.heap.size+1+1,3,none⟩) (by simp) (.slice (some ⟨g3,0,none⟩) x.b.ls.length c3')) _) gr4 (by have h1:=World.ownsRow.lt (zu O2) g2 rfl;omega))
 replace O3:=zh (show Tup5.Own5 134 w5 (w.heap.size+3) g3 x.b.ls.length c3' x.b.ls from row_kept (World.ownsRow.alloc (row_store (zu O3) (a:=⟨w.heap.size+1+1,3,none⟩) (by simp) (.slice (some ⟨g3,0,none⟩) x.b.ls.length c3')) _) gr4 (by have h1:=World.ownsRow.lt (zu O3) g3 rfl;omega))
 have T5:=zh ((zu G4).set4 (.slice (some ⟨g4,0,none⟩) x.b.ts.length c4'))
 have p4:=(zu G4).o.c4
 have f4:=(zu G4).o.free 4
 have s4:=(zu A4).c.c4
 clear p4
 have o0:=(zu G4).o.c0
 have r0:=(zu G4).r.c0
 have u0:=(zu G4).r.free 0
 have o1:=(zu G4).o.c1
 have r1:=(zu G4).r.c1
 have u1:=(zu G4).r.free 1
 have o2:=(zu G4).o.c2
 have r2:=(zu G4).r.c2
 have u2:=(zu G4).r.free 2
 have o3:=(zu G4).o.c3
 have r3:=(zu G4).r.c3
 have u3:=(zu G4).r.free 3
 have o4:=(zu G4).o.c4
 have r4:=(zu G4).r.c4
 have u4:=(zu G4).r.free 4
 have o5:=(zu G4).o.c5
 have r5:=(zu G4).r.c5
 have u5:=(zu G4).r.free 5
 have B5:=zh (zu T5).b
 clear gr0 gr1 gr2 gr3 gr4 ow0 ow1 ow2 ow3 ow4
 go_enter Tryz.func49,Tryz.ntmps49
 go_wp2_with (first|(at_builtin;refine wpl_append rfl (.tmp 7) (.tmp 9) 38 rfl rfl rfl hr0 ?_)|(at_builtin;refine wpl_append rfl (.tmp 12) (.tmp 14) 39 rfl rfl rfl hr1 ?_)|(at_builtin;refine wpl_append rfl (.tmp 17) (.tmp 19) 40 rfl rfl rfl hr2 ?_)|(at_builtin;refine wpl_append rfl (.tmp 22) (.tmp 24) 41 rfl rfl rfl hr3 ?_)|(at_builtin;refine wpl_append rfl (.tmp 27) (.tmp 29) 42 rfl rfl rfl hr4 ?_))
 refine bodyPost_ret (v:= .agg #[.slice (some ⟨g0,0,none⟩) x.b.ac.length c0',.slice (some ⟨g1,0,none⟩) x.b.ic.length c1',.slice (some ⟨g2,0,none⟩) x.b.bs.length c2',.slice (some ⟨g3,0,none⟩) x.b.ls.length c3',.slice (some ⟨g4,0,none⟩) x.b.ts.length c4',.int .i64 x.b.lot]) (by simp[results,Tryz.results49,go_sem,r0,r1,r2,r3,r4,r5]) rfl ⟨⟨g0,c0',g1,c1',g2,c2',g3,c3',g4,c4',x.b⟩,rfl,rfl,?_,?_⟩
 ·exact Ow.rebase (base:=w.heap.size+3) ⟨(row_store (row_store (row_store (row_store (row_store (row_store (row_store (zu O0) (a:=⟨w.heap.size+1+1,4,none⟩) (by simp) _) (a:=⟨w.heap.size+1,0,none⟩) (by simp) _) (a:=⟨w.heap.size+1,1,none⟩) (by simp) _) (a:=⟨w.heap.size+1,2,none⟩) (by simp) _) (a:=⟨w.heap.size+1,3,none⟩) (by simp) _) (a:=⟨w.heap.size+1,4,none⟩) (by simp) _) (a:=⟨w.heap.size+1,5,none⟩) (by simp) _),(row_store (row_store (row_store (row_store (row_store (row_store (row_store (zu O1) (a:=⟨w.heap.size+1+1,4,none⟩) (by simp) _) (a:=⟨w.heap.size+1,0,none⟩) (by simp) _) (a:=⟨w.heap.size+1,1,none⟩) (by simp) _) (a:=⟨w.heap.size+1,2,none⟩) (by simp) _) (a:=⟨w.heap.size+1,3,none⟩) (by simp) _) (a:=⟨w.heap.size+1,4,none⟩) (by simp) _) (a:=⟨w.heap.size+1,5,none⟩) (by simp) _),(row_store (row_store (row_store (row_store (row_store (row_store (row_store (zu O2) (a:=⟨w.heap.size+1+1,4,none⟩) (by simp) _) (a:=⟨w.heap.size+1,0,none⟩) (by simp) _) (a:=⟨w.heap.size+1,1,none⟩) (by simp) _) (a:=⟨w.heap.size+1,2,none⟩) (by simp) _) (a:=⟨w.heap.size+1,3,none⟩) (by simp) _) (a:=⟨w.heap.size+1,4,none⟩) (by simp) _) (a:=⟨w.heap.size+1,5,none⟩) (by simp) _),(row_store (row_store (row_store (row_store (row_store (row_store (row_store (zu O3) (a:=⟨w.heap.size+1+1,4,none⟩) (by simp) _) (a:=⟨w.heap.size+1,0,none⟩) (by simp) _) (a:=⟨w.heap.size+1,1,none⟩) (by simp) _) (a:=⟨w.heap.size+1,2,none⟩) (by simp) _) (a:=⟨w.heap.size+1,3,none⟩) (by simp) _) (a:=⟨w.heap.size+1,4,none⟩) (by simp) _) (a:=⟨w.heap.size+1,5,none⟩) (by simp) _),(row_store (row_store (row_store (row_store (row_store (row_store (row_store (zu O4) (a:=⟨w.heap.size+1+1,4,none⟩) (by simp) _) (a:=⟨w.heap.size+1,0,none⟩) (by simp) _) (a:=⟨w.heap.size+1,1,none⟩) (by simp) _) (a:=⟨w.heap.size+1,2,none⟩) (by simp) _) (a:=⟨w.heap.size+1,3,none⟩) (by simp) _) (a:=⟨w.heap.size+1,4,none⟩) (by simp) _) (a:=⟨w.heap.size+1,5,none⟩) (by simp) _)⟩ (by omega)
 ·exact(((((((zu B5).setCell (p:=⟨w.heap.size+1,0,none⟩) (by simp) _).setCell (p:=⟨w.heap.size+1,1,none⟩) (by simp) _).setCell (p:=⟨w.heap.size+1,2,none⟩) (by simp) _).setCell (p:=⟨w.heap.size+1,3,none⟩) (by simp) _).setCell (p:=⟨w.heap.size+1,4,none⟩) (by simp) _).setCell (p:=⟨w.heap.size+1,5,none⟩) (by simp) _)
end SCopy
namespace INums13
open BMem Bks SPuts11 SNums13
open IBalsFit (St one_more)
open Bals (T3 el3)
open Tup5 (T5 el5)
open Tup8 (T8 el8)
theorem iNums(w:World)(x:Bx)(h:Rd w x)(ha:∀i,i<x.b.bs.length→-1000000000000000≤(el3 x.b.bs i).2.2∧(el3 x.b.bs i).2.2≤1000000000000000):
  Calls Tryz.prog 285 #[.agg #[.slice (some ⟨x.ga,0,none⟩) x.b.ac.length x.ca,.slice (some ⟨x.gi,0,none⟩) x.b.ic.length x.ci,.slice (some ⟨x.gb,0,none⟩) x.b.bs.length x.cb,.slice (some ⟨x.gl,0,none⟩) x.b.ls.length x.cl,.slice (some ⟨x.gt,0,none⟩) x.b.ts.length x.ct,.int .i64 x.b.lot]] w fun e w'=>∃g c,e= .returned (.slice (some ⟨g,0,none⟩) (nums x.b).length c)∧Ints.Own w' w.heap.size g (nums x.b).length c (nums x.b)∧Below w.heap.size w w':=by
 have S0:=zh (St.start h 44)
 have XB:=zh (show((x.ga<w.heap.size∧x.gi<w.heap.size)∧x.gb<w.heap.size) from⟨⟨h.la,h.li⟩,h.lb⟩)
 have na:=h.na
 have ni:=h.ni
 have nb:=h.nb
 have nl:=h.nl
 have nt:=h.nt
 have HA:=zh ha
 clear h ha
 go_enter Tryz.func285,Tryz.ntmps285
 have s0:=(zu S0).c.c0
 go_wp2
 clear s0
 generalize hW:(w.alloc (.cells #[.slice (some ⟨x.ga,0,none⟩) x.b.ac.length x.ca,.slice (some ⟨x.gi,0,none⟩) x.b.ic.length x.ci,.slice (some ⟨x.gb,0,none⟩) x.b.bs.length x.cb,.slice (some ⟨x.gl,0,none⟩) x.b.ls.length x.cl,.slice (some ⟨x.gt,0,none⟩) x.b.ts.length x.ct,.int .i64 x.b.lot] 44))=W0 at *
 have ws:W0.heap.size=w.heap.size+1:=by rw[←hW];simp
 have O0:=zh (show Ints.Own (W0.alloc (.cells #[.int .i64 x.b.ac.length] 3)) W0.heap.size (w.heap.size+1) 1 1 [(x.b.ac.length:Int)] from by rw[←ws];exact World.ownsRow_lit W0 #[.int .i64 x.b.ac.length] 1 (Nat.le_refl _) (by decide) rfl)
 have B0:=zh (one_more W0 (.cells #[.int .i64 x.b.ac.length] 3))
 clear hW
 generalize hA:[(x.b.ac.length:Int)]=A0 at *
 have HA0:=zh hA
 clear hA
 go_loopw [3,5,21] (fun l _ i wr=>∃(k g c n:Nat),i= .int .i64 k∧k≤x.b.ac.length∧l= .slice (some ⟨g,0,none⟩) n c∧n≤1+2*k∧Hid (Ints.Own wr W0.heap.size g n c (A0++(x.b.ac.take k).flatMap row2))∧Hid (Below W0.heap.size W0 wr)) (fun _ _ i _=>x.b.ac.length-(intOf i).toNat)
 case atStart=>exact⟨0,_,_,_,rfl,by omega,rfl,by omega,zh (by simpa using zu O0),B0⟩
 case round=>
  clear O0 B0
  obtain⟨k,g,c,n,rfl,hk,rfl,nk,HO,HB⟩:=hrel
  have bs:=(zu HB).size
  have og:=(zu HO).lt
  have S1:=zh ((zu S0).step (zu HB))
  have cf:=(zu S1).c.c0
  by_cases t:k<x.b.ac.length
  ·have kt:(k:Int)<x.b.ac.length:=by omega
   have d:=(zu S1).r.ra k t
   have lg:=(zu S1).r.la
   have NX:=zh (flat_more (f:=row2) ((0,0):Int×Int) t)
   change Hid (_=_++row2 (Chart.el x.b.ac k)) at NX
   change wr.cell? ⟨x.ga,k*2,none⟩=some (.int .i64 (Chart.el x.b.ac k).1)∧wr.cell? ⟨x.ga,k*2+1,none⟩=some (.int .i64 (Chart.el x.b.ac k).2) at d
   generalize Chart.el x.b.ac k=p at *
   obtain⟨p0,p1⟩:=p
   obtain⟨d0,d1⟩:=d
   have LL:=zh (lit2 (wr.alloc (.cells #[.int .i64 p0,.int .i64 p1] 129)) p0 p1)
   rw[show(wr.alloc (.cells #[.int .i64 p0,.int .i64 p1] 129)).heap.size=wr.heap.size+1 by simp] at LL
   go_wp2_with (first|(at_builtin;refine wp_catI _ rfl _ _ rfl W0.heap.size g n c 2 _ [p0,p1] (wr.heap.size+1) 2 rfl rfl (own_allocI (own_allocI (zu HO) _) _) rfl (zu LL) (by omega) (by simp;omega) ?_)|go_in)
   intro g9 c9 u9 o9 gr9 loc9
   have O9:=zh o9
   have B9:=zh ((((zu HB).alloc bs (.cells #[.int .i64 p0,.int .i64 p1] 129)).alloc (by simp;omega) (.cells #[.int .i64 p0,.int .i64 p1] 3)).grown gr9 (by simp;omega) (fun j hj=>by cases hj;exact og.1))
   clear o9 gr9 loc9
   go_wp2
   go_roundw
   case rel=>exact⟨k+1,g9,c9,n+2,by go_num,by omega,rfl,by omega,zh (by rw[zu NX];first|exact zu O9|(rw[ws];exact zu O9)|(rw[←List.append_assoc];exact zu O9)|(rw[←List.append_assoc,ws];exact zu O9)),B9⟩
   case measure=>simp[intOf];omega
  ·have e:k=x.b.ac.length:=by omega
   subst e
   have O:=zu HO
   rw[List.take_length] at O
   have HO:=zh O
   clear O hk t
   have cg:=(zu S1).c.c1
   go_wp2_with (first|(at_builtin;refine wp_catI _ rfl _ _ rfl W0.heap.size g n c 1 _ [(x.b.ic.length:Int)] _ 1 rfl rfl (own_allocI (zu HO) _) rfl (lit1 _ _) (by omega) (by simp;omega) ?_)|go_in)
   intro g9 c9 u9 o9 gr9 loc9
   have O1:=zh (show Ints.Own u9 W0.heap.size g9 (n+1) c9 (A0++x.b.ac.flatMap row2++[(x.b.ic.length:Int)]) from by first|exact o9|(rw[List.append_assoc];exact o9)|(rw[ws];exact o9)|(rw[ws,List.append_assoc];exact o9))
   have B1:=zh (((zu HB).alloc bs (.cells #[.int .i64 (x.b.ic.length:Int)] 3)).grown gr9 (by simp;omega) (fun j hj=>by cases hj;exact og.1))
   have n9:n+1≤1+2*1048576+1:=by omega
   clear o9 gr9 loc9 HO HB S1 cf cg bs og
   generalize hA:A0++x.b.ac.flatMap row2++[(x.b.ic.length:Int)]=A1 at *
   have HA1:=zh hA
   clear hA
   have cn:=((zu S0).step (zu B1)).c.c1
   go_wp2
   clear cn
   go_loopw [3,7,42] (fun l _ i wr=>∃(k g c n:Nat),i= .int .i64 k∧k≤x.b.ic.length∧l= .slice (some ⟨g,0,none⟩) n c∧n≤1+2*1048576+1+2*k∧Hid (Ints.Own wr W0.heap.size g n c (A1++(x.b.ic.take k).flatMap row2))∧Hid (Below W0.heap.size W0 wr)) (fun _ _ i _=>x.b.ic.length-(intOf i).toNat)
   case atStart=>exact⟨0,_,_,_,rfl,by omega,rfl,by omega,zh (by simpa using zu O1),B1⟩
   case round=>
    clear O1 B1
    obtain⟨k,g,c,n,rfl,hk,rfl,nk,HO,HB⟩:=hrel
    have bs:=(zu HB).size
    have og:=(zu HO).lt
    have S1:=zh ((zu S0).step (zu HB))
    have cf:=(zu S1).c.c1
    by_cases t:k<x.b.ic.length
    ·have kt:(k:Int)<x.b.ic.length:=by omega
     have d:=(zu S1).r.ri k t
     have lg:=(zu S1).r.li
     have NX:=zh (flat_more (f:=row2) ((0,0):Int×Int) t)
     change Hid (_=_++row2 (Chart.el x.b.ic k)) at NX
     change wr.cell? ⟨x.gi,k*2,none⟩=some (.int .i64 (Chart.el x.b.ic k).1)∧wr.cell? ⟨x.gi,k*2+1,none⟩=some (.int .i64 (Chart.el x.b.ic k).2) at d
     generalize Chart.el x.b.ic k=p at *
     obtain⟨p0,p1⟩:=p
     obtain⟨d0,d1⟩:=d
     have LL:=zh (lit2 (wr.alloc (.cells #[.int .i64 p0,.int .i64 p1] 130)) p0 p1)
     rw[show(wr.alloc (.cells #[.int .i64 p0,.int .i64 p1] 130)).heap.size=wr.heap.size+1 by simp] at LL
     go_wp2_with (first|(at_builtin;refine wp_catI _ rfl _ _ rfl W0.heap.size g n c 2 _ [p0,p1] (wr.heap.size+1) 2 rfl rfl (own_allocI (own_allocI (zu HO) _) _) rfl (zu LL) (by omega) (by simp;omega) ?_)|go_in)
     intro g9 c9 u9 o9 gr9 loc9
     have O9:=zh o9
     have B9:=zh ((((zu HB).alloc bs (.cells #[.int .i64 p0,.int .i64 p1] 130)).alloc (by simp;omega) (.cells #[.int .i64 p0,.int .i64 p1] 3)).grown gr9 (by simp;omega) (fun j hj=>by cases hj;exact og.1))
     clear o9 gr9 loc9
     go_wp2
     go_roundw
     case rel=>exact⟨k+1,g9,c9,n+2,by go_num,by omega,rfl,by omega,zh (by rw[zu NX];first|exact zu O9|(rw[ws];exact zu O9)|(rw[←List.append_assoc];exact zu O9)|(rw[←List.append_assoc,ws];exact zu O9)),B9⟩
     case measure=>simp[intOf];omega
    ·have e:k=x.b.ic.length:=by omega
     subst e
     have O:=zu HO
     rw[List.take_length] at O
     have HO:=zh O
     clear O hk t
     have cg:=(zu S1).c.c2
     go_wp2_with (first|(at_builtin;refine wp_catI _ rfl _ _ rfl W0.heap.size g n c 1 _ [(x.b.bs.length:Int)] _ 1 rfl rfl (own_allocI (zu HO) _) rfl (lit1 _ _) (by omega) (by simp;omega) ?_)|go_in)
     intro g9 c9 u9 o9 gr9 loc9
     have O2:=zh (show Ints.Own u9 W0.heap.size g9 (n+1) c9 (A1++x.b.ic.flatMap row2++[(x.b.bs.length:Int)]) from by first|exact o9|(rw[List.append_assoc];exact o9)|(rw[ws];exact o9)|(rw[ws,List.append_assoc];exact o9))
     have B2:=zh (((zu HB).alloc bs (.cells #[.int .i64 (x.b.bs.length:Int)] 3)).grown gr9 (by simp;omega) (fun j hj=>by cases hj;exact og.1))
     have n9:n+1≤1+2*1048576+1+2*1048576+1:=by omega
     clear o9 gr9 loc9 HO HB S1 cf cg bs og
     generalize hA:A1++x.b.ic.flatMap row2++[(x.b.bs.length:Int)]=A2 at *
     have HA2:=zh hA
     clear hA
     have cn:=((zu S0).step (zu B2)).c.c2
     go_wp2
     clear cn
     go_loopw [3,9,63] (fun l _ i wr=>∃(k g c n:Nat),i= .int .i64 k∧k≤x.b.bs.length∧l= .slice (some ⟨g,0,none⟩) n c∧n≤1+2*1048576+1+2*1048576+1+3*k∧Hid (Ints.Own wr W0.heap.size g n c (A2++(x.b.bs.take k).flatMap row3))∧Hid (Below W0.heap.size W0 wr)) (fun _ _ i _=>x.b.bs.length-(intOf i).toNat)
     case atStart=>exact⟨0,_,_,_,rfl,by omega,rfl,by omega,zh (by simpa using zu O2),B2⟩
     case round=>
      clear O2 B2
      obtain⟨k,g,c,n,rfl,hk,rfl,nk,HO,HB⟩:=hrel
      have bs:=(zu HB).size
      have og:=(zu HO).lt
      have S1:=zh ((zu S0).step (zu HB))
      have cf:=(zu S1).c.c2
      by_cases t:k<x.b.bs.length
      ·have kt:(k:Int)<x.b.bs.length:=by omega
       have d:=(zu S1).r.rb k t
       have lg:=(zu S1).r.lb
       have NX:=zh (flat_more (f:=row3) ((0,0,0):T3) t)
       change Hid (_=_++row3 (el3 x.b.bs k)) at NX
       have am:=(zu HA) k t
       change wr.cell? ⟨x.gb,k*3,none⟩=some (.int .i64 (el3 x.b.bs k).1)∧wr.cell? ⟨x.gb,k*3+1,none⟩=some (.int .i64 (el3 x.b.bs k).2.1)∧wr.cell? ⟨x.gb,k*3+2,none⟩=some (.int .i64 (el3 x.b.bs k).2.2) at d
       generalize el3 x.b.bs k=p at *
       obtain⟨p0,p1,p2⟩:=p
       obtain⟨d0,d1,d2⟩:=d
       have am1:wrap64 (p2+1000000000000000)=p2+1000000000000000:=by rw[wrap64];simp only at am;omega
       have am2:IntKind.i64.wrap (p2+1000000000000000)=p2+1000000000000000:=by rw[IntKind.wrap_i64];simp only at am;omega
       have LL:=zh (lit3 (wr.alloc (.cells #[.int .i64 p0,.int .i64 p1,.int .i64 p2] 132)) p0 p1 (p2+1000000000000000))
       rw[show(wr.alloc (.cells #[.int .i64 p0,.int .i64 p1,.int .i64 p2] 132)).heap.size=wr.heap.size+1 by simp] at LL
       go_wp2_with (first|(at_builtin;refine wp_catI _ rfl _ _ rfl W0.heap.size g n c 3 _ [p0,p1,(p2+1000000000000000)] (wr.heap.size+1) 3 rfl rfl (own_allocI (own_allocI (zu HO) _) _) rfl (zu LL) (by omega) (by simp;omega) ?_)|go_in)
       intro g9 c9 u9 o9 gr9 loc9
       have O9:=zh o9
       have B9:=zh ((((zu HB).alloc bs (.cells #[.int .i64 p0,.int .i64 p1,.int .i64 p2] 132)).alloc (by simp;omega) (.cells #[.int .i64 p0,.int .i64 p1,.int .i64 (p2+1000000000000000)] 3)).grown gr9 (by simp;omega) (fun j hj=>by cases hj;exact og.1))
       clear o9 gr9 loc9
       go_wp2
       go_roundw
       case rel=>exact⟨k+1,g9,c9,n+3,by go_num,by omega,rfl,by omega,zh (by rw[zu NX];first|exact zu O9|(rw[ws];exact zu O9)|(rw[←List.append_assoc];exact zu O9)|(rw[←List.append_assoc,ws];exact zu O9)),B9⟩
       case measure=>simp[intOf];omega
      ·have e:k=x.b.bs.length:=by omega
       subst e
       have O:=zu HO
       rw[List.take_length] at O
       have HO:=zh O
       clear O hk t
       have cg:=(zu S1).c.c3
       go_wp2_with (first|(at_builtin;refine wp_catI _ rfl _ _ rfl W0.heap.size g n c 1 _ [(x.b.ls.length:Int)] _ 1 rfl rfl (own_allocI (zu HO) _) rfl (lit1 _ _) (by omega) (by simp;omega) ?_)|go_in)
       intro g9 c9 u9 o9 gr9 loc9
       have O3:=zh (show Ints.Own u9 W0.heap.size g9 (n+1) c9 (A2++x.b.bs.flatMap row3++[(x.b.ls.length:Int)]) from by first|exact o9|(rw[List.append_assoc];exact o9)|(rw[ws];exact o9)|(rw[ws,List.append_assoc];exact o9))
       have B3:=zh (((zu HB).alloc bs (.cells #[.int .i64 (x.b.ls.length:Int)] 3)).grown gr9 (by simp;omega) (fun j hj=>by cases hj;exact og.1))
       have n9:n+1≤1+2*1048576+1+2*1048576+1+3*1048576+1:=by omega
       clear o9 gr9 loc9 HO HB S1 cf cg bs og
       generalize hA:A2++x.b.bs.flatMap row3++[(x.b.ls.length:Int)]=A3 at *
       have HA3:=zh hA
       clear hA
       have cn:=((zu S0).step (zu B3)).c.c3
       go_wp2
       clear cn
       go_loopw [3,11,87] (fun l _ i wr=>∃(k g c n:Nat),i= .int .i64 k∧k≤x.b.ls.length∧l= .slice (some ⟨g,0,none⟩) n c∧n≤1+2*1048576+1+2*1048576+1+3*1048576+1+5*k∧Hid (Ints.Own wr W0.heap.size g n c (A3++(x.b.ls.take k).flatMap row5))∧Hid (Below W0.heap.size W0 wr)) (fun _ _ i _=>x.b.ls.length-(intOf i).toNat)
       case atStart=>exact⟨0,_,_,_,rfl,by omega,rfl,by omega,zh (by simpa using zu O3),B3⟩
       case round=>
        clear O3 B3
        obtain⟨k,g,c,n,rfl,hk,rfl,nk,HO,HB⟩:=hrel
        have bs:=(zu HB).size
        have og:=(zu HO).lt
        have S1:=zh ((zu S0).step (zu HB))
        have cf:=(zu S1).c.c3
        by_cases t:k<x.b.ls.length
        ·have kt:(k:Int)<x.b.ls.length:=by omega
         have d:=(zu S1).r.rl k t
         have lg:=(zu S1).r.ll
         have NX:=zh (flat_more (f:=row5) ((0,0,0,0,0):T5) t)
         change Hid (_=_++row5 (el5 x.b.ls k)) at NX
         change wr.cell? ⟨x.gl,k*5,none⟩=some (.int .i64 (el5 x.b.ls k).1)∧wr.cell? ⟨x.gl,k*5+1,none⟩=some (.int .i64 (el5 x.b.ls k).2.1)∧wr.cell? ⟨x.gl,k*5+2,none⟩=some (.int .i64 (el5 x.b.ls k).2.2.1)∧wr.cell? ⟨x.gl,k*5+3,none⟩=some (.int .i64 (el5 x.b.ls k).2.2.2.1)∧wr.cell? ⟨x.gl,k*5+4,none⟩=some (.int .i64 (el5 x.b.ls k).2.2.2.2) at d
         generalize el5 x.b.ls k=p at *
         obtain⟨p0,p1,p2,p3,p4⟩:=p
         obtain⟨d0,d1,d2,d3,d4⟩:=d
         have LL:=zh (lit5 (wr.alloc (.cells #[.int .i64 p0,.int .i64 p1,.int .i64 p2,.int .i64 p3,.int .i64 p4] 134)) p0 p1 p2 p3 p4)
         rw[show(wr.alloc (.cells #[.int .i64 p0,.int .i64 p1,.int .i64 p2,.int .i64 p3,.int .i64 p4] 134)).heap.size=wr.heap.size+1 by simp] at LL
         go_wp2_with (first|(at_builtin;refine wp_catI _ rfl _ _ rfl W0.heap.size g n c 5 _ [p0,p1,p2,p3,p4] (wr.heap.size+1) 5 rfl rfl (own_allocI (own_allocI (zu HO) _) _) rfl (zu LL) (by omega) (by simp;omega) ?_)|go_in)
         intro g9 c9 u9 o9 gr9 loc9
         have O9:=zh o9
         have B9:=zh ((((zu HB).alloc bs (.cells #[.int .i64 p0,.int .i64 p1,.int .i64 p2,.int .i64 p3,.int .i64 p4] 134)).alloc (by simp;omega) (.cells #[.int .i64 p0,.int .i64 p1,.int .i64 p2,.int .i64 p3,.int .i64 p4] 3)).grown gr9 (by simp;omega) (fun j hj=>by cases hj;exact og.1))
         clear o9 gr9 loc9
         go_wp2
         go_roundw
         case rel=>exact⟨k+1,g9,c9,n+5,by go_num,by omega,rfl,by omega,zh (by rw[zu NX];first|exact zu O9|(rw[ws];exact zu O9)|(rw[←List.append_assoc];exact zu O9)|(rw[←List.append_assoc,ws];exact zu O9)),B9⟩
         case measure=>simp[intOf];omega
        ·have e:k=x.b.ls.length:=by omega
         subst e
         have O:=zu HO
         rw[List.take_length] at O
         have HO:=zh O
         clear O hk t
         have cg:=(zu S1).c.c4
         go_wp2_with (first|(at_builtin;refine wp_catI _ rfl _ _ rfl W0.heap.size g n c 1 _ [(x.b.ts.length:Int)] _ 1 rfl rfl (own_allocI (zu HO) _) rfl (lit1 _ _) (by omega) (by simp;omega) ?_)|go_in)
         intro g9 c9 u9 o9 gr9 loc9
         have O4:=zh (show Ints.Own u9 W0.heap.size g9 (n+1) c9 (A3++x.b.ls.flatMap row5++[(x.b.ts.length:Int)]) from by first|exact o9|(rw[List.append_assoc];exact o9)|(rw[ws];exact o9)|(rw[ws,List.append_assoc];exact o9))
         have B4:=zh (((zu HB).alloc bs (.cells #[.int .i64 (x.b.ts.length:Int)] 3)).grown gr9 (by simp;omega) (fun j hj=>by cases hj;exact og.1))
         have n9:n+1≤1+2*1048576+1+2*1048576+1+3*1048576+1+5*1048576+1:=by omega
         clear o9 gr9 loc9 HO HB S1 cf cg bs og
         generalize hA:A3++x.b.ls.flatMap row5++[(x.b.ts.length:Int)]=A4 at *
         have HA4:=zh hA
         clear hA
         have cn:=((zu S0).step (zu B4)).c.c4
         go_wp2
         clear cn
         go_loopw [3,13,114] (fun l _ i wr=>∃(k g c n:Nat),i= .int .i64 k∧k≤x.b.ts.length∧l= .slice (some ⟨g,0,none⟩) n c∧n≤1+2*1048576+1+2*1048576+1+3*1048576+1+5*1048576+1+8*k∧Hid (Ints.Own wr W0.heap.size g n c (A4++(x.b.ts.take k).flatMap row8))∧Hid (Below W0.heap.size W0 wr)) (fun _ _ i _=>x.b.ts.length-(intOf i).toNat)
         case atStart=>exact⟨0,_,_,_,rfl,by omega,rfl,by omega,zh (by simpa using zu O4),B4⟩
         case round=>
          clear O4 B4
          obtain⟨k,g,c,n,rfl,hk,rfl,nk,HO,HB⟩:=hrel
          have bs:=(zu HB).size
          have og:=(zu HO).lt
          have S1:=zh ((zu S0).step (zu HB))
          have cf:=(zu S1).c.c4
          by_cases t:k<x.b.ts.length
          ·have kt:(k:Int)<x.b.ts.length:=by omega
           have d:=(zu S1).r.rt k t
           have lg:=(zu S1).r.lt
           have NX:=zh (flat_more (f:=row8) ((0,0,0,0,0,0,0,0):T8) t)
           change Hid (_=_++row8 (el8 x.b.ts k)) at NX
           change wr.cell? ⟨x.gt,k*8,none⟩=some (.int .i64 (el8 x.b.ts k).1)∧wr.cell? ⟨x.gt,k*8+1,none⟩=some (.int .i64 (el8 x.b.ts k).2.1)∧wr.cell? ⟨x.gt,k*8+2,none⟩=some (.int .i64 (el8 x.b.ts k).2.2.1)∧wr.cell? ⟨x.gt,k*8+3,none⟩=some (.int .i64 (el8 x.b.ts k).2.2.2.1)∧wr.cell? ⟨x.gt,k*8+4,none⟩=some (.int .i64 (el8 x.b.ts k).2.2.2.2.1)∧wr.cell? ⟨x.gt,k*8+5,none⟩=some (.int .i64 (el8 x.b.ts k).2.2.2.2.2.1)∧wr.cell? ⟨x.gt,k*8+6,none⟩=some (.int .i64 (el8 x.b.ts k).2.2.2.2.2.2.1)∧wr.cell? ⟨x.gt,k*8+7,none⟩=some (.int .i64 (el8 x.b.ts k).2.2.2.2.2.2.2) at d
           generalize el8 x.b.ts k=p at *
           obtain⟨p0,p1,p2,p3,p4,p5,p6,p7⟩:=p
           obtain⟨d0,d1,d2,d3,d4,d5,d6,d7⟩:=d
           have LL:=zh (lit8 (wr.alloc (.cells #[.int .i64 p0,.int .i64 p1,.int .i64 p2,.int .i64 p3,.int .i64 p4,.int .i64 p5,.int .i64 p6,.int .i64 p7] 136)) p0 p1 p2 p3 p4 p5 p6 p7)
           rw[show(wr.alloc (.cells #[.int .i64 p0,.int .i64 p1,.int .i64 p2,.int .i64 p3,.int .i64 p4,.int .i64 p5,.int .i64 p6,.int .i64 p7] 136)).heap.size=wr.heap.size+1 by simp] at LL
           go_wp2_with (first|(at_builtin;refine wp_catI _ rfl _ _ rfl W0.heap.size g n c 8 _ [p0,p1,p2,p3,p4,p5,p6,p7] (wr.heap.size+1) 8 rfl rfl (own_allocI (own_allocI (zu HO) _) _) rfl (zu LL) (by omega) (by simp;omega) ?_)|go_in)
           intro g9 c9 u9 o9 gr9 loc9
           have O9:=zh o9
           have B9:=zh ((((zu HB).alloc bs (.cells #[.int .i64 p0,.int .i64 p1,.int .i64 p2,.int .i64 p3,.int .i64 p4,.int .i64 p5,.int .i64 p6,.int .i64 p7] 136)).alloc (by simp;omega) (.cells #[.int .i64 p0,.int .i64 p1,.int .i64 p2,.int .i64 p3,.int .i64 p4,.int .i64 p5,.int .i64 p6,.int .i64 p7] 3)).grown gr9 (by simp;omega) (fun j hj=>by cases hj;exact og.1))
           clear o9 gr9 loc9
           go_wp2
           go_roundw
           case rel=>exact⟨k+1,g9,c9,n+8,by go_num,by omega,rfl,by omega,zh (by rw[zu NX];first|exact zu O9|(rw[ws];exact zu O9)|(rw[←List.append_assoc];exact zu O9)|(rw[←List.append_assoc,ws];exact zu O9)),B9⟩
           case measure=>simp[intOf];omega
          ·have e:k=x.b.ts.length:=by omega
           subst e
           have O:=zu HO
           rw[List.take_length] at O
           have HO:=zh O
           clear O hk t
           have cg:=(zu S1).c.c5
           go_wp2_with (first|(at_builtin;refine wp_catI _ rfl _ _ rfl W0.heap.size g n c 1 _ [x.b.lot] _ 1 rfl rfl (own_allocI (zu HO) _) rfl (lit1 _ _) (by omega) (by simp;omega) ?_)|go_in)
           intro g9 c9 u9 o9 gr9 loc9
           have O9:=zh o9
           have B9:=zh (((zu HB).alloc bs (.cells #[.int .i64 x.b.lot] 3)).grown gr9 (by simp;omega) (fun j hj=>by cases hj;exact og.1))
           clear o9 gr9 loc9
           go_wp2
           go_ret
           have E:A4++x.b.ts.flatMap row8++[x.b.lot]=nums x.b:=by rw[←zu HA4,←zu HA3,←zu HA2,←zu HA1,←zu HA0];rfl
           have O:Ints.Own u9 W0.heap.size g9 (n+1) c9 (A4++x.b.ts.flatMap row8++[x.b.lot]):=by first|exact zu O9|(rw[List.append_assoc];exact zu O9)|(rw[ws];exact zu O9)|(rw[ws,List.append_assoc];exact zu O9)
           rw[E] at O
           have l:=O.len
           refine⟨g9,c9,?_,?_,((zu S0).b.trans ((zu B9).mono (by omega)))⟩
           ·rw[l];rfl
           ·rw[l];exact O.mono (by omega)
end INums13
end Go.Proofs.YtppkkmaoaiopaaaGreat
