/- Lemmas. -/
import Derived.Test.YtcjgepkdpkhljaaGreatQG32
import Derived.Test.YtcjgepkdpkhljaaGreatQG34
open Go.ChangeShapes Go.WideShapes Go.ChangeAt Go.RowKit
set_option linter.unusedVariables false
set_option linter.unusedSimpArgs false
set_option maxRecDepth 100000
set_option maxHeartbeats 32000000
namespace Go.Proofs.YtcjgepkdpkhljaaGreat
namespace IInto12
open SBytes SPut11 SPuts11 IRd11
open ICmd10 (Ptr)
open IGets11 (getN_next)
structure Gr2(w w':World)(a b:Nat):Prop where
 os:w'.os=w.os
 tape:w'.tape=w.tape
 output:w'.output=w.output
 size:w.heap.size≤w'.heap.size
 block:∀i,i<w.heap.size→i≠a→i≠b→w'.heap[i]?=w.heap[i]?
section
variable {w w1 w2:World} {a b:Nat}
theorem Gr2.refl(w:World)(a b:Nat):Gr2 w w a b:=⟨rfl,rfl,rfl,Nat.le_refl _,fun _ _ _ _=>rfl⟩
theorem Gr2.first(h:Gr2 w w1 a b)(k:w1.grownBy w2 (some a)):Gr2 w w2 a b:=
 ⟨k.os.trans h.os,k.tape.trans h.tape,k.output.trans h.output,Nat.le_trans h.size k.size,fun i hi h1 h2=>(k.block i (Nat.lt_of_lt_of_le hi h.size) (by simpa using h1)).trans (h.block i hi h1 h2)⟩
theorem Gr2.second(h:Gr2 w w1 a b)(k:w1.grownBy w2 (some b)):Gr2 w w2 a b:=
 ⟨k.os.trans h.os,k.tape.trans h.tape,k.output.trans h.output,Nat.le_trans h.size k.size,fun i hi h1 h2=>(k.block i (Nat.lt_of_lt_of_le hi h.size) (by simpa using h2)).trans (h.block i hi h1 h2)⟩
theorem Gr2.step(h:Gr2 w w1 a b)(k:Below w1.heap.size w1 w2):Gr2 w w2 a b:=
 ⟨k.os.trans h.os,k.tape.trans h.tape,k.output.trans h.output,Nat.le_trans h.size k.size,fun i hi h1 h2=>(k.block i (Nat.lt_of_lt_of_le hi h.size)).trans (h.block i hi h1 h2)⟩
theorem Gr2.to{B:Nat}(h:Gr2 w w1 a b)(hB:B≤w.heap.size)(ha:B≤a)(hb:B≤b):Below B w w1:=
 ⟨h.os,h.tape,h.output,h.size,fun i hi=>h.block i (by omega) (by omega) (by omega)⟩
theorem Gr2.cell(h:Gr2 w w1 a b){g:Nat}(o:Nat)(hg:g<w.heap.size)(h1:g≠a)(h2:g≠b):w1.cell? ⟨g,o,none⟩=w.cell? ⟨g,o,none⟩:=
 World.cell?_of_block (w:=w) (h.block g hg h1 h2)
end
def Tg(w:World)(base t m d:Nat)(vs:List Value):Prop:=w.ownsRow base t m (.slice (some ⟨d,0,none⟩) 1 1) 1 vs
section
variable {w w':World} {base t m d:Nat} {vs:List Value}
theorem Tg.lt(h:Tg w base t m d vs):base≤d∧d<w.heap.size:=World.ownsRow.lt h d rfl
theorem Tg.free(h:Tg w base t m d vs)(i:Nat):w.frozen? ⟨d,i,none⟩=false:=World.ownsRow.frozenAt h i
theorem Tg.len(h:Tg w base t m d vs):vs.length=m:=by have:=h.1;simpa using this
theorem Tg.at(h:Tg w base t m d vs){i:Nat}{v:Value}(hi:vs[i]?=some v):w.cell? ⟨d,i,none⟩=some v:=by
 have hl:=h.len
 have hk:=(List.getElem?_eq_some_iff.1 hi).1
 have:=World.ownsRow.cellAt h i (by omega)
 rw[this]
 exact hi
theorem Tg.mono{base':Nat}(h:Tg w base t m d vs)(hb:base'≤base):Tg w base' t m d vs:=by
 refine⟨h.1,?_⟩
 rcases h.2 with⟨h1,_⟩|⟨g',c,cur,h1,h2,h3⟩
 ·simp at h1
 ·exact .inr ⟨g',c,cur,h1,Nat.le_trans hb h2,h3⟩
theorem Tg.blk(h:Tg w base t m d vs)(e:w'.heap[d]?=w.heap[d]?):Tg w' base t m d vs:=by
 refine⟨h.1,?_⟩
 rcases h.2 with⟨h1,_⟩|⟨g',c,cur,h1,h2,h3,h4⟩
 ·simp at h1
 ·have e1:d=g':=by simp at h1;exact h1.1
  subst e1
  exact .inr ⟨d,c,cur,h1,h2,e.trans h3,h4⟩
theorem Tg.step(h:Tg w base t m d vs)(k:Below w.heap.size w w'):Tg w' base t m d vs:=h.blk (k.block d h.lt.2)
theorem Tg.kept{row:Nat}(h:Tg w base t m d vs)(k:w.grownBy w' (some row))(hr:d≠row):Tg w' base t m d vs:=h.blk (k.block d h.lt.2 (by simpa using hr))
theorem Tg.set(h:Tg w base t m d vs)(i:Nat)(v:Value):Tg (w.setCell ⟨d,i,none⟩ v) base t m d (vs.set i v)∧w.grownBy (w.setCell ⟨d,i,none⟩ v) (some d):=World.ownsRow.stored h i v
end
def fill(vs:List Value)(q:List Int):List Value:=q.map (Value.int .i64)++vs.drop q.length
theorem fill_nil(vs:List Value):fill vs []=vs:=by simp[fill]
theorem fill_at{vs:List Value}{q:List Int}{i:Nat}(h:q.length≤i):(fill vs q)[i]?=vs[i]?:=by
 unfold fill
 rw[List.getElem?_append_right (by simpa using h)]
 simp
 congr 1
 omega
theorem fill_next{vs:List Value}{q:List Int}(v:Int)(h:q.length<vs.length):(fill vs q).set q.length (.int .i64 v)=fill vs (q++[v]):=by
 unfold fill
 rw[List.set_append_right _ _ (by simp)]
 simp
 rw[List.drop_eq_getElem_cons h]
 rfl
theorem iInto(w:World)(gl cl p base t m d g n cap:Nat)(xs:List Int)(x:Int)(vs:List Value)(hx:x≤9223372036854775807)(h20:xs.length≤1048576)(hc:xs.length≤cl)(hg:gl<base)(hr:AtB w gl xs)(hp:Pl w base p x)(ht:Tg w base t m d vs)
  (hv:∀i,i<n→∃y,vs[i]?=some (.int .i64 y))(hP:Ptr w g d n)(lg:g<w.heap.size)(n1:g≠p)(n2:g≠d)(n3:p≠d)(hn:n≤1048576):
  Calls Tryz.prog 41 #[.agg #[.slice (some ⟨gl,0,none⟩) xs.length cl,.pointer (some ⟨p,0,none⟩)],.slice (some ⟨g,0,none⟩) n cap] w fun e w'=>e= .returned (.bool (gets xs n x []).2.2)∧Gr2 w w' p d∧((gets xs n x []).2.2=true→Pl w' base p (gets xs n x []).2.1∧Tg w' base t m d (fill vs (gets xs n x []).1)):=by
 obtain⟨r,E0⟩:∃r,Hid (r=gets xs n x []):=⟨_,rfl⟩
 rw[←zu E0]
 obtain⟨r0,r1,r2⟩:=r
 have G0:=zh ((Gr2.refl w p d).step (one_more w (.cells #[.slice (some ⟨gl,0,none⟩) xs.length cl,.pointer (some ⟨p,0,none⟩)] 92)))
 have C0:=zh (rd_box w (.slice (some ⟨gl,0,none⟩) xs.length cl) (.pointer (some ⟨p,0,none⟩)))
 have P0:=zh (show Pl (w.alloc (.cells #[.slice (some ⟨gl,0,none⟩) xs.length cl,.pointer (some ⟨p,0,none⟩)] 92)) base p x from pl_alloc hp _)
 have T0:=zh (show Tg (w.alloc (.cells #[.slice (some ⟨gl,0,none⟩) xs.length cl,.pointer (some ⟨p,0,none⟩)] 92)) base t m d (fill vs []) from by rw[fill_nil];exact ht.step (one_more _ _))
 have S0:=zh (show w.heap.size+1≤(w.alloc (.cells #[.slice (some ⟨gl,0,none⟩) xs.length cl,.pointer (some ⟨p,0,none⟩)] 92)).heap.size from by simp)
 have R:=zh hr
 have HP:=zh hP
 have HV:=zh hv
 have LP:=hp.lt
 have LT:=ht.lt
 clear hr hp ht hP hv
 go_enter Tryz.func41,Tryz.ntmps41
 go_wp2
 go_loopw [11] (fun i wr=>∃(s:Int) (q:List Int) (k:Nat),i= .int .i64 k∧k≤n∧q.length=k∧s≤9223372036854775807∧Hid ((r0,r1,r2)=gets xs (n-k) s q)∧Hid (Pl wr base p s)∧Hid (Tg wr base t m d (fill vs q))∧Hid (Gr2 w wr p d)∧Hid (wr.cell? ⟨w.heap.size,0,none⟩=some (.slice (some ⟨gl,0,none⟩) xs.length cl)∧wr.cell? ⟨w.heap.size,1,none⟩=some (.pointer (some ⟨p,0,none⟩)))∧w.heap.size+1≤wr.heap.size) (fun i _=>n-(intOf i).toNat)
 case atStart=>exact⟨x,[],0,rfl,by omega,rfl,hx,E0,P0,T0,G0,C0,zu S0⟩
 case round=>
  clear E0 P0 T0 G0 C0 S0
  obtain⟨s,q,k,rfl,hk,ql,sm,HE,HQ,HT,HG,HC,HS⟩:=hrel
  obtain⟨c0,c1⟩:=zu HC
  by_cases h:k<n
  case neg=>
   have e:k=n:=by omega
   subst e
   have F:=zu HE
   rw[Nat.sub_self] at F
   simp only[gets] at F
   injection F with F0 F
   injection F with F1 F2
   subst F0 F1 F2
   clear HE
   have QL:=zh ql
   clear ql
   go_wp2
   go_ret
   exact⟨rfl,zu HG,zu HQ,zu HT⟩
  have kn:(k:Int)<n:=by omega
  have NX:=zh (show(r0,r1,r2)=if(getN xs s).2.2=true then gets xs (n-(k+1)) (getN xs s).2.1 (q++[(getN xs s).1]) else([],0,false) from by
   rw[zu HE,show n-k=(n-(k+1))+1 by omega]
   rfl)
  have IN:=zh (iNum wr gl cl p base xs s sm h20 hc hg (AtB.below (zu R) ((zu HG).to (B:=base) (by omega) LP.1 LT.1) hg) (zu HQ))
  have GX:=zh (getN_next xs s h20)
  have pk:wr.cell? ⟨g,k,none⟩=some (.pointer (some ⟨d,k,none⟩)):=((zu HG).cell k lg n1 n2).trans ((zu HP) k h)
  have QL:=zh ql
  clear HE ql
  generalize getN xs s=y at *
  obtain⟨y0,y1,y2⟩:=y
  go_wp2_with fail
  refine(zu IN).mono ?_
  rintro e u ⟨v,s',rfl,hv,p1,g1⟩
  have us:=g1.size
  have G1:=zh ((zu HG).first g1)
  have P1:=zh p1
  have T1:=zh ((zu HT).kept g1 (fun e=>n3 e.symm))
  have d0:=(cell_grown g1 0 (g:=w.heap.size) (by omega) (by omega)).trans c0
  have d1:=(cell_grown g1 1 (g:=w.heap.size) (by omega) (by omega)).trans c1
  clear p1 g1 IN HQ HT HG HC c0 c1 pk
  cases y2 with
  |false=>
   have F:=zu NX
   rw[if_neg (by simp)] at F
   injection F with F0 F
   injection F with F1 F2
   subst F0 F1 F2
   clear NX hv GX
   go_wp2
   go_ret
   exact⟨rfl,zu G1,fun e=>by simp at e⟩
  |true=>
   obtain⟨rfl,rfl⟩:=hv rfl
   have gx:=(zu GX) rfl
   have N1:=zh (show(r0,r1,r2)=gets xs (n-(k+1)) s' (q++[v]) from by rw[zu NX,if_pos rfl])
   obtain⟨y,hy⟩:=(zu HV) k h
   have o1:u.cell? ⟨d,k,none⟩=some (.int .i64 y):=(zu T1).at (by rw[fill_at (by rw[zu QL];exact Nat.le_refl _)];exact hy)
   have f1:=(zu T1).free k
   obtain⟨t2,g2⟩:=(zu T1).set k (.int .i64 v)
   have T2:=zh (show Tg (u.setCell ⟨d,k,none⟩ (.int .i64 v)) base t m d (fill vs (q++[v])) from by
    have e:=fill_next (vs:=vs) (q:=q) v (by rw[zu QL];exact(List.getElem?_eq_some_iff.1 hy).1)
    rw[zu QL] at e
    rw[←e]
    exact t2)
   have G2:=zh ((zu G1).second g2)
   have P2:=zh (Ints.Own.kept (zu P1) g2 (by simpa using n3))
   have D2:=zh (And.intro ((cell_grown g2 0 (g:=w.heap.size) (by omega) (by omega)).trans d0) ((cell_grown g2 1 (g:=w.heap.size) (by omega) (by omega)).trans d1))
   have z2:=g2.size
   clear NX GX hv d0 d1 hy t2 g2
   go_wp2
   go_roundw
   case rel=>exact⟨s',q++[v],k+1,by go_num,by omega,by simp[zu QL],gx,N1,P2,T2,G2,D2,by omega⟩
   case measure=>simp[intOf];omega
end IInto12
end Go.Proofs.YtcjgepkdpkhljaaGreat
