/- Lemmas. -/
import Derived.Test.YtcjgepkdpkhljaaGreatQG6
import Derived.Deep.AppendLies
open Go.ChangeShapes Go.WideShapes Go.ChangeAt Go.RowKit
set_option linter.unusedVariables false
set_option linter.unusedSimpArgs false
set_option maxRecDepth 100000
set_option maxHeartbeats 32000000
namespace Go.Proofs.YtcjgepkdpkhljaaGreat
namespace SPack12
open SBytes SPut11 SPuts11 SGets11
open ByteH (Own At)
open SCmd (CmOk nArgs below_of_drew Cb sCmdOk)
open Lots (Says says_of)
theorem step_catB(u:World){ops:Array Oper}{o:Oper}{a:Act}{K:Act→World→Prop}{Q:Exit→Act→World→Prop}{E:Prop}(hgd:o.guard=none)(s x:Operand)
  (ho:o.op= .call {callee:= .builtin .append,args:= #[s,x],argTypes:= #[22,22]})(base g n cap m:Nat)(xs ys:List Int)(vb off c:Nat)
  (hs:a.eval s= .slice (some ⟨g,0,none⟩) n cap)(hx:a.eval x= .slice (some ⟨vb,off,none⟩) m c)(hown:Own u base g n cap xs)(hl:ys.length=m)(hv:AtO u vb off ys)(hn:n+m≤9223372036854)(hb:base≤u.heap.size)
  (h:∀g' c' w',Own w' base g' (n+m) c' (xs++ys)→u.grownBy w' (some g)→(g'=g∨g'=u.heap.size)→K (a.put o.dst (.slice (some ⟨g',0,none⟩) (n+m) c')) w'):if Region.wanted o (yielded ops a.tmps)=true then Oper.wp Tryz.prog o a u K Q else E:=by
 obtain⟨i0,hi,hz0,hz1,hz2⟩:=info_parts ByteH.info8
 have hw:Region.wanted o (yielded ops a.tmps)=true:=by simp[Region.wanted,hgd]
 rw[if_pos hw]
 obtain⟨v',w',hr,own',gr',nil',loc'⟩:=run_append_own_at (P:=Tryz.prog) u base 22 o.type 5 i0 (.int .u8 0) 1 1 Tryz.underlying22 hi hz0 hz1 hz2 rfl (by decide) (.slice (some ⟨g,0,none⟩) n cap) n (xs.map (Value.int .u8)) hown ⟨vb,off,none⟩ m c (ys.map (Value.int .u8)) (by simp[hl]) (fun j v hj=>by
  have hj':j<ys.length:=by
   have:=(List.getElem?_eq_some_iff.1 hj).1
   simpa using this
  have:=hv j hj'
  rw[Addr.add_lit,this]
  rw[←hj]
  simp[List.getD,hj']) (by intro u hu;obtain⟨y,_,rfl⟩:=List.mem_map.1 hu;simp[Value.oneCell']) (by unfold maxLen;omega) (by omega) hb
 unfold Oper.wp execOp
 simp only[ho,resolve,invoke,builtin,Sem.run_bind,Sem.run_pure,Result.andThen_ok,List.map_toArray,List.map_cons,List.map_nil,hs,hx,hr]
 obtain⟨g',c',rfl,o'⟩:=own_of_row (n':=n+m) (xs:=xs++ys) own' rfl (by simp) (by rw[nil'];simp)
 exact h g' c' w' o' gr' (by simpa[Value.ownBlock] using loc')
end SPack12
namespace SRead12
open SBytes SPut11 SPuts11 SGets11 SPack12
open Lots (Says says_of)
def B2(t:TypeId)(w:World)(base g:Nat)(v0 v1:Value):Prop:=w.ownsRow base t 2 (.slice (some ⟨g,0,none⟩) 1 1) 1 [v0,v1]
theorem B2.made{t:TypeId}{w:World}{base g:Nat}(v0 v1:Value)(hb:base≤w.heap.size)(hg:g=w.heap.size):B2 t (w.alloc (.cells #[v0,v1] t)) base g v0 v1:=by
 subst hg
 exact⟨rfl,.inr ⟨w.heap.size,1,#[v0,v1],rfl,hb,heap_alloc_new w _,Nat.le_refl _,by unfold maxLen;omega,rfl,rfl⟩⟩
section
variable {t:TypeId} {w w':World} {base g:Nat} {v0 v1:Value}
theorem B2.lt(h:B2 t w base g v0 v1):base≤g∧g<w.heap.size:=World.ownsRow.lt h g rfl
theorem B2.free(h:B2 t w base g v0 v1)(i:Nat):w.frozen? ⟨g,i,none⟩=false:=World.ownsRow.frozenAt h i
theorem B2.c0(h:B2 t w base g v0 v1):w.cell? ⟨g,0,none⟩=some v0:=(World.ownsRow.cellAt h 0 (by omega)).trans rfl
theorem B2.c1(h:B2 t w base g v0 v1):w.cell? ⟨g,1,none⟩=some v1:=(World.ownsRow.cellAt h 1 (by omega)).trans rfl
theorem B2.below{B:Nat}(h:B2 t w base g v0 v1)(k:Below B w w')(hg:g<B):B2 t w' base g v0 v1:=by
 refine⟨h.1,?_⟩
 rcases h.2 with⟨h1,_⟩|⟨g',c,cur,h1,h2,h3,h4⟩
 ·simp at h1
 ·have e:g=g':=by simp at h1;exact h1.1
  subst e
  exact .inr ⟨g,c,cur,h1,h2,(k.block g hg).trans h3,h4⟩
end
theorem gets_full(xs:List Int):∀(m:Nat) (p:Int) (l:List Int),(gets xs m p l).2.2=true→(gets xs m p l).1.length=l.length+m
 |0,p,l=>by simp[gets]
 |m+1,p,l=>by
  simp only[gets]
  split
  ·intro h
   have:=gets_full xs m (getN xs p).2.1 (l++[(getN xs p).1]) h
   rw[this]
   simp
   omega
  ·simp
end SRead12
namespace RT12
open SBytes SPut11 SPuts11 SPack12 SRead12 RT11
def piece(xs:List Int)(f n:Nat):List Int:=(xs.drop f).take n
theorem piece_cons{xs:List Int}{f n:Nat}(h:f<xs.length):piece xs f (n+1)=xs.getD f 0::piece xs (f+1) n:=by
 unfold piece
 rw[List.drop_eq_getElem_cons h,List.take_succ_cons]
 simp[List.getD,h]
theorem piece_add(xs:List Int)(f n m:Nat)(h:f+n≤xs.length):piece xs f (n+m)=piece xs f n++piece xs (f+n) m:=by
 unfold piece
 rw[List.take_add,List.drop_drop]
theorem getF_inv(xs:List Int)(hb:∀i,i<xs.length→0≤xs.getD i 0∧xs.getD i 0≤255)(q:Nat):∀f k,(getF xs q f k).2.2=true→
  ∃m:Nat,(getF xs q f k).1=val xs q k+(m:Int)*128^k∧(getF xs q f k).2.1=((q+k+(numF m).length:Nat):Int)∧piece xs (q+k) (numF m).length=numF m∧q+k+(numF m).length≤xs.length∧(0<k→m≠0)
 |0,k=>by simp[getF]
 |f+1,k=>by
  intro h
  simp only[getF] at h⊢
  by_cases a:q+k<xs.length
  ·rw[if_pos a] at h⊢
   obtain⟨d0,d1⟩:=hb (q+k) a
   by_cases b:xs.getD (q+k) 0<128
   ·rw[if_pos b] at h⊢
    by_cases c:xs.getD (q+k) 0=0∧0<k
    ·rw[if_pos c] at h;simp at h
    ·rw[if_neg c]
     refine⟨(xs.getD (q+k) 0).toNat,?_,?_,?_,?_,?_⟩
     ·simp only[val]
      rw[show xs.getD (q+k) 0%128=xs.getD (q+k) 0 by omega,show(((xs.getD (q+k) 0).toNat:Nat):Int)=xs.getD (q+k) 0 by omega]
     ·rw[numF_last (by omega)];simp
     ·rw[numF_last (by omega),List.length_singleton,piece_cons a,show(((xs.getD (q+k) 0).toNat:Nat):Int)=xs.getD (q+k) 0 by omega]
      rfl
     ·rw[numF_last (by omega)];simp;omega
     ·intro hk e
      exact c ⟨by omega,hk⟩
   ·rw[if_neg b] at h⊢
    obtain⟨m,e1,e2,e3,e4,e5⟩:=getF_inv xs hb q f (k+1) h
    have m0:=e5 (by omega)
    obtain⟨dn,hd⟩:∃dn:Nat,xs.getD (q+k) 0=((dn+128:Nat):Int):=⟨(xs.getD (q+k) 0-128).toNat,by omega⟩
    have dl:dn<128:=by omega
    have nm:numF (dn+128*m)=((dn+128:Nat):Int)::numF m:=by
     rw[numF_more (by omega),show(dn+128*m)%128=dn by omega,show(dn+128*m)/128=m by omega]
    refine⟨dn+128*m,?_,?_,?_,?_,?_⟩
    ·rw[e1,pow_more]
     simp only[val]
     rw[hd,show(((dn+128:Nat):Int))%128=(dn:Int) by omega,show((dn+128*m:Nat):Int)=(dn:Int)+(m:Int)*128 by omega,Int.add_mul,Int.mul_assoc,Int.mul_comm (128:Int) (128^k),Int.add_assoc]
    ·rw[e2,nm];simp;omega
    ·rw[nm,List.length_cons,piece_cons a,hd,show q+k+1=q+(k+1) by omega,e3]
    ·rw[nm];simp;omega
    ·intro _;omega
  ·rw[if_neg a] at h;simp at h
theorem getN_inv(xs:List Int)(hb:∀i,i<xs.length→0≤xs.getD i 0∧xs.getD i 0≤255)(p:Nat)(h:(getN xs p).2.2=true):
  (getN xs p).2.1=((p+(numB (getN xs p).1).length:Nat):Int)∧piece xs p (numB (getN xs p).1).length=numB (getN xs p).1∧p+(numB (getN xs p).1).length≤xs.length:=by
 unfold getN at h⊢
 by_cases a:(p:Int)<0∨(xs.length:Int)≤p
 ·rw[if_pos a] at h;simp at h
 ·rw[if_neg a] at h⊢
  rw[Int.toNat_natCast] at h⊢
  obtain⟨m,e1,e2,e3,e4,_⟩:=getF_inv xs hb p 9 0 h
  have e:(getF xs p 9 0).1=(m:Int):=by rw[e1];simp[val]
  have n:numB (m:Int)=numF m:=by rw[numB_pos (by omega),Int.toNat_natCast]
  rw[e,n]
  rw[Nat.add_zero] at e2 e3 e4
  exact⟨e2,e3,e4⟩
theorem gets_inv(xs:List Int)(hb:∀i,i<xs.length→0≤xs.getD i 0∧xs.getD i 0≤255):∀(m p:Nat) (l:List Int),p≤xs.length→(gets xs m p l).2.2=true→
  ∃ns,(gets xs m p l).1=l++ns∧(gets xs m p l).2.1=((p+(ns.flatMap numB).length:Nat):Int)∧piece xs p (ns.flatMap numB).length=ns.flatMap numB∧p+(ns.flatMap numB).length≤xs.length
 |0,p,l,hp,_=>⟨[],by simp[gets],by simp[gets],by simp[piece],by simpa using hp⟩
 |m+1,p,l,hp,h=>by
  simp only[gets] at h⊢
  by_cases c:(getN xs p).2.2=true
  ·rw[if_pos c] at h⊢
   obtain⟨g1,g2,g3⟩:=getN_inv xs hb p c
   rw[g1] at h⊢
   obtain⟨ns,e1,e2,e3,e4⟩:=gets_inv xs hb m (p+(numB (getN xs p).1).length) (l++[(getN xs p).1]) g3 h
   refine⟨(getN xs p).1::ns,by rw[e1];simp,?_,?_,?_⟩
   ·rw[e2,List.flatMap_cons,List.length_append];omega
   ·rw[List.flatMap_cons,List.length_append,piece_add _ _ _ _ g3,g2,e3]
   ·rw[List.flatMap_cons,List.length_append];omega
  ·rw[if_neg c] at h;simp at h
end RT12
namespace SReadC12
open SBytes SPut11 SPuts11 SGets11 SPack12 SRead12
open SCmd (CmOk nArgs nArgs_le sArgs sCmdOk)
open Lots (Says says_of)
def okB(k:Int)(xs:List Int):Bool:=decide ((xs.length:Int)=nArgs k)&&xs.all fun x=>decide (0≤x)&&decide (x≤1000000000000000)
theorem okB_says(k:Int)(xs:List Int):Says (okB k xs) (CmOk k xs):=by
 unfold Says okB CmOk
 rw[Bool.and_eq_true,decide_eq_true_eq,List.all_eq_true]
 refine and_congr Iff.rfl ⟨fun h i hi=>?_,fun h x hx=>?_⟩
 ·have e:xs.getD i 0=xs[i]:=by simp[List.getD,hi]
  have:=h xs[i] (List.getElem_mem _)
  rw[e]
  simpa using this
 ·obtain⟨i,hi,rfl⟩:=List.mem_iff_getElem.1 hx
  have:=h i hi
  have e:xs.getD i 0=xs[i]:=by simp[List.getD,hi]
  rw[e] at this
  simpa using this
def readC(xs:List Int):Int×List Int×Bool:=
 if(getN xs 0).2.2=true∧0≤nArgs (getN xs 0).1∧(getsN xs (getN xs 0).2.1 (nArgs (getN xs 0).1)).2.2=true∧(getsN xs (getN xs 0).2.1 (nArgs (getN xs 0).1)).2.1=xs.length∧okB (getN xs 0).1 (getsN xs (getN xs 0).2.1 (nArgs (getN xs 0).1)).1=true then((getN xs 0).1,(getsN xs (getN xs 0).2.1 (nArgs (getN xs 0).1)).1,true) else(0,[],false)
theorem getsN_le(xs:List Int)(p q:Int):(getsN xs p q).1.length≤2000:=by
 have gl:∀(m:Nat) (p:Int) (l:List Int),(gets xs m p l).1.length≤l.length+m:=by
  intro m
  induction m with
  |zero=>intro p l;simp[gets]
  |succ m ih=>
   intro p l
   simp only[gets]
   split
   ·have:=ih (getN xs p).2.1 (l++[(getN xs p).1])
    simp at this
    omega
   ·simp
 unfold getsN
 split
 ·have:=gl q.toNat p []
  simp at this
  omega
 ·simp
theorem row_off{w:World}{base g n cap:Nat}{xs:List Int}(h:Ints.Own w base g n cap xs){a:Addr}(ha:a.block≠g)(u:Value):Ints.Own (w.setCell a u) base g n cap xs:=by
 refine⟨h.1,?_⟩
 rcases h.2 with⟨z,_⟩|⟨g',c',cur,z,h2,h3,h4⟩
 ·simp at z
 ·obtain⟨e,_⟩:g=g'∧cap=c':=by simpa using z
  subst e
  exact Or.inr ⟨g,c',cur,z,h2,by rw[Below.heap_setCell _ _ _ _ (fun e=>ha e.symm)];exact h3,h4⟩
theorem sCmdRead(w:World)(gl cl:Nat)(xs:List Int)(h20:xs.length≤1048576)(hg:gl<w.heap.size)(hr:AtB w gl xs):
  Calls Tryz.prog 12 #[.slice (some ⟨gl,0,none⟩) xs.length cl] w fun e w'=>∃a c,e= .returned (.tuple #[.agg #[.int .i64 (readC xs).1,.slice a (readC xs).2.1.length c],.bool (readC xs).2.2])∧VOI.Ob w' w.heap.size a (readC xs).2.1.length c (readC xs).2.1∧Below w.heap.size w w':=by
 have B0:=zh (one_more w (.cells #[.int .i64 0,.slice none 0 0] 26))
 have X0:=zh (B2.made (t:=26) (w:=w) (.int .i64 0) (.slice none 0 0) (Nat.le_refl _) rfl)
 have R:=zh (AtB.below hr (zu B0) hg)
 have HG:=zh (Nat.lt_of_lt_of_le hg (zu B0).size)
 have SG:=zh (sGetNum (w.alloc (.cells #[.int .i64 0,.slice none 0 0] 26)) gl cl xs 0 h20 (zu R))
 obtain⟨r,hq⟩:∃r,Hid (readC xs=r):=⟨_,rfl⟩
 rw[zu hq]
 unfold readC at hq
 clear hr hg
 generalize getN xs 0=y at *
 obtain⟨kd,pl,ok⟩:=y
 have x0:=(zu X0).c0
 have x1:=(zu X0).c1
 have f0:=(zu X0).free 0
 have f1:=(zu X0).free 1
 simp only at hq SG
 cases ok with
 |false=>
  have e:=zu hq
  rw[if_neg (by simp)] at e
  subst e
  clear hq
  go_enter Tryz.func12,Tryz.ntmps12
  go_wp2_with fail
  refine(zu SG).mono ?_
  rintro e u ⟨rfl,rfl⟩
  go_wp2
  refine bodyPost_ret (v:= .tuple #[.agg #[.int .i64 0,.slice none 0 0],.bool false]) (by simp[results,Tryz.results12,go_sem,x0,x1]) rfl ⟨_,_,rfl,?_,?_⟩
  ·exact VOI.Ob.nil _ _
  ·first|exact zu B0|exact((zu B0).setCell (p:=⟨w.heap.size,0,none⟩) (by simp) _).setCell (p:=⟨w.heap.size,1,none⟩) (by simp) _
 |true=>
  go_enter Tryz.func12,Tryz.ntmps12
  go_wp2_with fail
  refine(zu SG).mono ?_
  rintro e u ⟨rfl,rfl⟩
  go_wp2_with fail
  refine(sArgs _ kd).mono ?_
  rintro e u1 ⟨rfl,bb⟩
  have B1:=zh ((zu B0).trans (bb.mono (zu B0).size))
  have X1:=zh ((zu X0).below bb (zu X0).lt.2)
  have R1:=zh (AtB.below (zu R) bb (zu HG))
  have HG1:=zh (Nat.lt_of_lt_of_le (zu HG) bb.size)
  clear bb x0 x1 f0 f1 SG
  have x0:=(zu X1).c0
  have x1:=(zu X1).c1
  have f0:=(zu X1).free 0
  have f1:=(zu X1).free 1
  have n7:=nArgs_le kd
  by_cases na:nArgs kd<0
  ·have e:=zu hq
   rw[if_neg (fun h=>by omega)] at e
   subst e
   clear hq
   generalize nArgs kd=n at *
   go_wp2
   refine bodyPost_ret (v:= .tuple #[.agg #[.int .i64 0,.slice none 0 0],.bool false]) (by simp[results,Tryz.results12,go_sem,x0,x1]) rfl ⟨_,_,rfl,?_,?_⟩
   ·exact VOI.Ob.nil _ _
   ·first|exact zu B1|exact((zu B1).setCell (p:=⟨w.heap.size,0,none⟩) (by simp) _).setCell (p:=⟨w.heap.size,1,none⟩) (by simp) _
  have HS:=zh (fun(u:World) hg hr=>sGetNums u gl cl xs pl (nArgs kd) h20 hg hr)
  have LE:=zh (getsN_le xs pl (nArgs kd))
  have HK:=zh (fun(u:World)=>sArgs u kd)
  have OKS:=zh (okB_says kd)
  have nb:¬nArgs kd<0:=na
  have nc:0≤nArgs kd:=by omega
  have HQ:=zh (show ∀q:Bool,q=(decide ((getsN xs pl (nArgs kd)).2.2=true)&&(decide ((getsN xs pl (nArgs kd)).2.1=xs.length)&&okB kd (getsN xs pl (nArgs kd)).1))→r=if q=true then(kd,(getsN xs pl (nArgs kd)).1,true) else(0,[],false) from fun q hq'=>by
   rw[←zu hq,hq']
   by_cases o:(getsN xs pl (nArgs kd)).2.2=true∧(getsN xs pl (nArgs kd)).2.1=xs.length∧okB kd (getsN xs pl (nArgs kd)).1=true
   ·rw[if_pos ⟨trivial,nc,o.1,o.2.1,o.2.2⟩,if_pos (by simp[o.1,o.2.1,o.2.2])]
   ·rw[if_neg (fun h=>o ⟨h.2.2.1,h.2.2.2.1,h.2.2.2.2⟩),if_neg (fun h=>o (by simpa using h))])
  clear hq na
  generalize getsN xs pl (nArgs kd)=z at *
  obtain⟨ns,en,fi⟩:=z
  simp only at HQ HS LE
  generalize nArgs kd=n at *
  go_wp2_with fail
  refine((zu HK) _).mono ?_
  rintro e u2 ⟨rfl,bb⟩
  have B2':=zh ((zu B1).trans (bb.mono (zu B1).size))
  have X2:=zh ((zu X1).below bb (zu X1).lt.2)
  have R2:=zh (AtB.below (zu R1) bb (zu HG1))
  have HG2:=zh (Nat.lt_of_lt_of_le (zu HG1) bb.size)
  clear bb x0 x1 f0 f1
  go_wp2_with fail
  refine((zu HS) _ (zu HG2) (zu R2)).mono ?_
  rintro e u3 ⟨g3,c3,rfl,o3,bb⟩
  have B3:=zh ((zu B2').trans (bb.mono (zu B2').size))
  have X3:=zh ((zu X2).below bb (zu X2).lt.2)
  have O3L:=zh (show w.heap.size<g3 from Nat.lt_of_lt_of_le (zu X2).lt.2 o3.lt.1)
  have O3:=zh (o3.mono (zu B2').size)
  clear bb o3
  have b4:=one_more u3 (.cells #[.int .i64 kd,.slice (some ⟨g3,0,none⟩) ns.length c3] 26)
  have B4:=zh ((zu B3).trans (b4.mono (zu B3).size))
  have X4:=zh ((zu X3).below b4 (zu X3).lt.2)
  have O4:=zh ((zu O3).below b4 (zu O3).lt.2)
  have Y4:=zh (B2.made (t:=26) (w:=u3) (base:=u3.heap.size) (.int .i64 kd) (.slice (some ⟨g3,0,none⟩) ns.length c3) (Nat.le_refl _) rfl)
  have x0:=(zu X4).c0
  have x1:=(zu X4).c1
  have f0:=(zu X4).free 0
  have f1:=(zu X4).free 1
  have y0:=(zu Y4).c0
  have y1:=(zu Y4).c1
  clear b4
  cases fi with
  |false=>
   have e:=(zu HQ) false (by simp)
   subst e
   clear HQ
   go_wp2
   refine bodyPost_ret (v:= .tuple #[.agg #[.int .i64 0,.slice none 0 0],.bool false]) (by simp[results,Tryz.results12,go_sem,x0,x1]) rfl ⟨_,_,rfl,?_,?_⟩
   ·exact VOI.Ob.nil _ _
   ·first|exact zu B4|exact((zu B4).setCell (p:=⟨w.heap.size,0,none⟩) (by simp) _).setCell (p:=⟨w.heap.size,1,none⟩) (by simp) _
  |true=>
   by_cases en1:en=(xs.length:Int)
   case neg=>
    have e:=(zu HQ) false (by simp[en1])
    subst e
    have en2:(en !=(xs.length:Int))=true:=by simpa using en1
    clear HQ en1
    go_wp2
    refine bodyPost_ret (v:= .tuple #[.agg #[.int .i64 0,.slice none 0 0],.bool false]) (by simp[results,Tryz.results12,go_sem,x0,x1]) rfl ⟨_,_,rfl,?_,?_⟩
    ·exact VOI.Ob.nil _ _
    ·first|exact zu B4|exact((zu B4).setCell (p:=⟨w.heap.size,0,none⟩) (by simp) _).setCell (p:=⟨w.heap.size,1,none⟩) (by simp) _
   have en2:(en !=(xs.length:Int))=false:=by simpa using en1
   have HQ2:=zh (show ∀q:Bool,q=okB kd ns→r=if q=true then(kd,ns,true) else(0,[],false) from fun q hq=>(zu HQ) q (by rw[hq];simp[en1]))
   clear HQ en1
   have OK:=zh ((zu OKS) ns)
   generalize okB kd ns=q at *
   go_wp2_with fail
   refine(sCmdOk _ kd g3 c3 ns q (Nat.le_trans (zu LE) (by omega)) (zu O4).lt.2 (zu O4).at (zu OK)).mono ?_
   rintro e u5 ⟨rfl,bb⟩
   have B5:=zh ((zu B4).trans (bb.mono (zu B4).size))
   have X5:=zh ((zu X4).below bb (zu X4).lt.2)
   have O5:=zh ((zu O4).below bb (zu O4).lt.2)
   have Y5:=zh ((zu Y4).below bb (zu Y4).lt.2)
   clear bb x0 x1 f0 f1 y0 y1
   have x0:=(zu X5).c0
   have x1:=(zu X5).c1
   have f0:=(zu X5).free 0
   have f1:=(zu X5).free 1
   have y0:=(zu Y5).c0
   have y1:=(zu Y5).c1
   have e:=(zu HQ2) q rfl
   clear HQ2
   cases q with
   |false=>
    subst e
    go_wp2
    refine bodyPost_ret (v:= .tuple #[.agg #[.int .i64 0,.slice none 0 0],.bool false]) (by simp[results,Tryz.results12,go_sem,x0,x1]) rfl ⟨_,_,rfl,?_,?_⟩
    ·exact VOI.Ob.nil _ _
    ·first|exact zu B5|exact((zu B5).setCell (p:=⟨w.heap.size,0,none⟩) (by simp) _).setCell (p:=⟨w.heap.size,1,none⟩) (by simp) _
   |true=>
    subst e
    have lw:=(zu B3).size
    go_wp2
    refine bodyPost_ret (v:= .tuple #[.agg #[.int .i64 kd,.slice (some ⟨g3,0,none⟩) ns.length c3],.bool true]) (by simp[results,Tryz.results12,go_sem,x0,x1]) rfl ⟨some ⟨g3,0,none⟩,c3,rfl,?_,?_⟩
    ·exact VOI.Ob.of (row_off (row_off (zu O5) (a:=⟨w.heap.size,0,none⟩) (by have:=(zu O3L);simp;omega) _) (a:=⟨w.heap.size,1,none⟩) (by have:=(zu O3L);simp;omega) _)
    ·exact((zu B5).setCell (p:=⟨w.heap.size,0,none⟩) (by simp) _).setCell (p:=⟨w.heap.size,1,none⟩) (by simp) _
end SReadC12
namespace SPackC12
open SBytes SPut11 SPuts11 SGets11 SPack12
open ByteH (Own At)
open SCmd (CmOk nArgs below_of_drew Cb sCmdOk)
open Lots (Says says_of)
def packC(b:Bool)(k:Int)(xs:List Int):List Int:=if b=true then numB k++numsB xs else[]
theorem kind_in{k:Int}{xs:List Int}(h:CmOk k xs):1≤k∧k≤11:=by
 have a:=h.1
 unfold nArgs at a
 repeat' split at a
 all_goals omega
theorem args_in{k:Int}{xs:List Int}(h:CmOk k xs):∀i,i<xs.length→xs.getD i 0≤9223372036854775807:=fun i hi=>by have:=h.2 i hi;omega
theorem nums_len(xs:List Int)(h:∀i,i<xs.length→xs.getD i 0≤9223372036854775807):(numsB xs).length≤9*xs.length:=by
 unfold numsB
 split
 ·have:=flat_len xs h xs.length (Nat.le_refl _)
  rw[List.take_length] at this
  exact this
 ·simp
abbrev oC0:Oper:={dst:=some 8,op:=Go.Op.fieldAddr 26 (Go.Operand.tmp 1) 0,type:=0,pos:= "l12_code.go:9",after:= #[],guard:=none}
abbrev oC1:Oper:={dst:=some 9,op:=Go.Op.load 3 (Go.Operand.tmp 8),type:=3,pos:= "l12_code.go:9",after:= #[{on:=0,ground:=Go.Ground.data}],guard:=none}
abbrev oC2:Oper:={dst:=some 10,op:=Go.Op.call {callee:=Go.Callee.value (Go.Operand.func 42),args:= #[Go.Operand.tmp 9],argTypes:= #[3]},type:=22,pos:= "l12_code.go:9",after:= #[{on:=1,ground:=Go.Ground.data}],guard:=none}
abbrev oC3:Oper:={dst:=some 11,op:=Go.Op.fieldAddr 26 (Go.Operand.tmp 1) 1,type:=0,pos:= "l12_code.go:9",after:= #[],guard:=none}
abbrev oC4:Oper:={dst:=some 12,op:=Go.Op.load 24 (Go.Operand.tmp 11),type:=24,pos:= "l12_code.go:9",after:= #[{on:=3,ground:=Go.Ground.data}],guard:=none}
abbrev oC5:Oper:={dst:=some 13,op:=Go.Op.call {callee:=Go.Callee.value (Go.Operand.func 43),args:= #[Go.Operand.tmp 12],argTypes:= #[24]},type:=22,pos:= "l12_code.go:9",after:= #[{on:=4,ground:=Go.Ground.data},{on:=2,ground:=Go.Ground.chain}],guard:=none}
abbrev oC6:Oper:={dst:=some 14,op:=Go.Op.call {callee:=Go.Callee.builtin Go.Builtin.append,args:= #[Go.Operand.tmp 10,Go.Operand.tmp 13],argTypes:= #[22,22]},type:=22,pos:= "l12_code.go:9",after:= #[{on:=2,ground:=Go.Ground.data},{on:=5,ground:=Go.Ground.data},{on:=5,ground:=Go.Ground.chain}],guard:=none}
abbrev oC7:Oper:={dst:=some 2,op:=Go.Op.assign (Go.Operand.tmp 14),type:=22,pos:= "l12_code.go:9",after:= #[{on:=6,ground:=Go.Ground.data},{on:=6,ground:=Go.Ground.chain},{on:=0,ground:=Go.Ground.phase},{on:=1,ground:=Go.Ground.phase},{on:=2,ground:=Go.Ground.phase},{on:=3,ground:=Go.Ground.phase},{on:=4,ground:=Go.Ground.phase},{on:=5,ground:=Go.Ground.phase},{on:=6,ground:=Go.Ground.phase}],guard:=none}
abbrev oC8:Oper:={dst:=some 3,op:=Go.Op.assign (Go.Operand.const (Go.Value.bool true)),type:=4,pos:= "l12_code.go:9",after:= #[{on:=7,ground:=Go.Ground.chain},{on:=0,ground:=Go.Ground.phase},{on:=1,ground:=Go.Ground.phase},{on:=2,ground:=Go.Ground.phase},{on:=3,ground:=Go.Ground.phase},{on:=4,ground:=Go.Ground.phase},{on:=5,ground:=Go.Ground.phase},{on:=6,ground:=Go.Ground.phase},{on:=7,ground:=Go.Ground.phase}],guard:=none}
theorem sCmdPack(w:World)(k:Int)(gl cap:Nat)(xs:List Int)(b:Bool)(h20:xs.length≤1048576)(hg:gl<w.heap.size)(hr:Ints.At w gl xs)(hb:Says b (CmOk k xs)):
  Calls Tryz.prog 23 #[.agg #[.int .i64 k,.slice (some ⟨gl,0,none⟩) xs.length cap]] w fun e w'=>∃g c,e= .returned (.tuple #[.slice (some ⟨g,0,none⟩) (packC b k xs).length c,.bool b])∧Own w' w.heap.size g (packC b k xs).length c (packC b k xs)∧Below w.heap.size w w':=by
 have T:=zh hb
 have L0:=zh (Cb.start (k:=k) (cap:=cap) hr hg 26)
 clear hr hg hb
 obtain⟨k0,k1⟩:=(zu L0).c
 go_enter Tryz.func23,Tryz.ntmps23
 go_wp2_with fail
 refine(sCmdOk _ k gl cap xs b h20 (zu L0).l (zu L0).r (zu T)).mono ?_
 rintro e u1 ⟨rfl,bb⟩
 have L1:=zh ((zu L0).step bb)
 have Z1:=zh bb.size
 clear bb k0 k1 L0
 obtain⟨k0,k1⟩:=(zu L1).c
 cases b with
 |false=>
  have O1:=zh (lit0 u1 w.heap.size (zu L1).b.size rfl)
  have B1:=zh ((zu L1).b.alloc (zu L1).b.size (.cells #[] 5))
  go_wp2
  go_ret2
  exact⟨_,0,rfl,zu O1,zu B1⟩
 |true=>
  obtain⟨i0,i1⟩:=kind_in (zu T).yes
  have XI:=zh (args_in (zu T).yes)
  have N1:=numB_nine (x:=k) (by omega)
  have N2:=nums_len xs (zu XI)
  have K1:=(zu L1).c
  go_wp2_with fail
  refine wp_region_held_drew (S:=(fun w'=>w'.cell? ⟨w.heap.size,0,none⟩=some (.int .i64 k)∧w'.cell? ⟨w.heap.size,1,none⟩=some (.slice (some ⟨gl,0,none⟩) xs.length cap))) (by kernel_rfl) K1 (fun hHeld=>?_)
  refine wpAnyH_take (i:=0) (oi:=oC0) (v:= .pointer (some ⟨w.heap.size,0,none⟩)) rfl (by kernel_rfl) (by kernel_rfl) (by kernel_rfl) (fun _ _ _ h=>h) (Or.inl ⟨by rfl,fun w hSw=>?_⟩) hHeld ?_
  ·(try dsimp only at hSw)
   unfold oC0
   go_simp
  try simp only[oC0,Act.put,List.setIfInBounds_toArray,List.set_cons_zero,List.set_cons_succ]
  refine wpAnyH_take (i:=1) (oi:=oC1) (v:= .int .i64 k) rfl (by kernel_rfl) (by kernel_rfl) (by kernel_rfl) (fun _ _ _ h=>h) (Or.inl ⟨by rfl,fun w hSw=>?_⟩) hHeld ?_
  ·(try dsimp only at hSw)
   unfold oC1
   go_simp
  try simp only[oC1,Act.put,List.setIfInBounds_toArray,List.set_cons_zero,List.set_cons_succ]
  refine wpAnyH_take (i:=3) (oi:=oC3) (v:= .pointer (some ⟨w.heap.size,1,none⟩)) rfl (by kernel_rfl) (by kernel_rfl) (by kernel_rfl) (fun _ _ _ h=>h) (Or.inl ⟨by rfl,fun w hSw=>?_⟩) hHeld ?_
  ·(try dsimp only at hSw)
   unfold oC3
   go_simp
  try simp only[oC3,Act.put,List.setIfInBounds_toArray,List.set_cons_zero,List.set_cons_succ]
  refine wpAnyH_take (i:=4) (oi:=oC4) (v:= .slice (some ⟨gl,0,none⟩) xs.length cap) rfl (by kernel_rfl) (by kernel_rfl) (by kernel_rfl) (fun _ _ _ h=>h) (Or.inl ⟨by rfl,fun w hSw=>?_⟩) hHeld ?_
  ·(try dsimp only at hSw)
   unfold oC4
   go_simp
  try simp only[oC4,Act.put,List.setIfInBounds_toArray,List.set_cons_zero,List.set_cons_succ]
  refine wpAnyH_ready (rs:=[2]) (by kernel_rfl) (by simp) ?_
  refine AllReadyH.cons (o:=oC2) rfl (fun K hK=>?_) AllReadyH.nil
  unfold oC2
  go_simp
  go_wp2_with fail
  refine(sPutNum _ k (by omega)).mono ?_
  rintro e u2 ⟨g2,c2,rfl,o2,bb⟩
  have L2:=zh ((zu L1).step (below_of_drew bb))
  have K2:=(zu L2).c
  have O2:=zh o2
  have Z2:=zh bb.size
  clear bb o2
  go_wp2_with fail
  refine hK.out _ _ K2 (fun hHeld=>?_)
  clear hK K
  try simp only[oC2,Act.put,List.setIfInBounds_toArray,List.set_cons_zero,List.set_cons_succ]
  refine wpAnyH_ready (rs:=[5]) (by kernel_rfl) (by simp) ?_
  refine AllReadyH.cons (o:=oC5) rfl (fun K hK=>?_) AllReadyH.nil
  unfold oC5
  go_simp
  go_wp2_with fail
  refine(sPutNums _ gl cap xs h20 (zu L2).l (zu L2).r (zu XI)).mono ?_
  rintro e u3 ⟨g3,c3,rfl,o3,bb⟩
  have L3:=zh ((zu L2).step bb)
  have K3:=(zu L3).c
  have O3:=zh o3
  have Z3:=zh bb.size
  replace O2:=zh ((zu O2).below bb (zu O2).lt.2)
  clear bb o3
  go_wp2_with fail
  refine hK.out _ _ K3 (fun hHeld=>?_)
  clear hK K
  try simp only[oC5,Act.put,List.setIfInBounds_toArray,List.set_cons_zero,List.set_cons_succ]
  refine wpAnyH_ready (rs:=[6]) (by kernel_rfl) (by simp) ?_
  refine AllReadyH.cons (o:=oC6) rfl (fun K hK=>?_) AllReadyH.nil
  have HD:u1.drew.heap.size=u1.heap.size:=rfl
  have l2:=(zu O2).lt
  have l3:=(zu O3).lt
  have z1:=zu Z1
  have z2:=zu Z2
  have z3:=zu Z3
  have s1:=(zu L1).s
  refine step_catB _ (by rfl) _ _ (by rfl) u1.drew.heap.size g2 (numB k).length c2 (numsB xs).length (numB k) (numsB xs) g3 0 c3 (by rfl) (by rfl) (by exact zu O2) (by rfl) (by exact AtO.of (zu O3).at) (by omega) (by omega) ?_
  intro g9 c9 u9 o9 gr9 loc9
  have K9:u9.cell? ⟨w.heap.size,0,none⟩=some (.int .i64 k)∧u9.cell? ⟨w.heap.size,1,none⟩=some (.slice (some ⟨gl,0,none⟩) xs.length cap):=⟨gr9.cell K3.1 (fun e=>by injection e with e;simp at e;omega),gr9.cell K3.2 (fun e=>by injection e with e;simp at e;omega)⟩
  have O9:=zh o9
  have B9:=zh ((zu L3).b.grown gr9 (by have:=(zu L3).b.size;omega) (fun j hj=>by cases hj;omega))
  clear o9 gr9 loc9
  refine hK.out _ _ K9 (fun hHeld=>?_)
  clear hK K
  try simp only[oC6,Act.put,List.setIfInBounds_toArray,List.set_cons_zero,List.set_cons_succ]
  refine wpAnyH_take (i:=7) (oi:=oC7) (v:= .slice (some ⟨g9,0,none⟩) ((numB k).length+(numsB xs).length) c9) rfl (by kernel_rfl) (by kernel_rfl) (by kernel_rfl) (fun _ _ _ h=>h) (Or.inl ⟨by rfl,fun w hSw=>?_⟩) hHeld ?_
  ·(try dsimp only at hSw)
   unfold oC7
   go_simp
  try simp only[oC7,Act.put,List.setIfInBounds_toArray,List.set_cons_zero,List.set_cons_succ]
  refine wpAnyH_take (i:=8) (oi:=oC8) (v:= .bool true) rfl (by kernel_rfl) (by kernel_rfl) (by kernel_rfl) (fun _ _ _ h=>h) (Or.inl ⟨by rfl,fun w hSw=>?_⟩) hHeld ?_
  ·(try dsimp only at hSw)
   unfold oC8
   go_simp
  try simp only[oC8,Act.put,List.setIfInBounds_toArray,List.set_cons_zero,List.set_cons_succ]
  refine wpAnyH_done (by kernel_rfl) ?_ _
  go_wp2
  go_ret2
  refine⟨g9,c9,?_,?_,zu B9⟩
  ·show _=Ending.returned (.tuple #[.slice (some ⟨g9,0,none⟩) (packC true k xs).length c9,.bool true])
   rw[show packC true k xs=numB k++numsB xs from rfl,List.length_append];rfl
  ·rw[show packC true k xs=numB k++numsB xs from rfl,List.length_append];exact(zu O9).mono (by omega)
end SPackC12
namespace DrawB12
open SBytes SPut11 SPuts11 SPack12 SRead12 Draw11
open Draw (CodeAt Cur Only Moved below once new pick byte)
def By(xs:List Int):Prop:=∀x∈xs,0≤x∧x≤255
theorem own_take{w:World}{base g n cap:Nat}{xs:List Int}(h:ByteH.Own w base g n cap xs)(m:Nat)(hm:m≤n):ByteH.Own w base g m cap (xs.take m):=by
 have hl:=h.len
 refine⟨by simp;omega,?_⟩
 rcases h.2 with⟨z,_⟩|⟨g',c',cur,z,h2,h3,h4,h5,h6,h7⟩
 ·simp at z
 ·obtain⟨e,f⟩:g=g'∧cap=c':=by simpa using z
  subst e f
  refine .inr ⟨g,cap,cur,rfl,h2,h3,by omega,h5,h6,?_⟩
  have:=congrArg (List.take (m*1)) h7
  rw[List.take_take] at this
  rw[show min (m*1) (n*1)=m*1 by omega] at this
  rw[this,List.map_take,Nat.mul_one]
theorem by_numB{x:Int}(h:x≤9223372036854775807):By (numB x):=by
 intro y hy
 unfold numB at hy
 split at hy
 ·simp at hy
 ·exact numF_in 8 x.toNat (by omega) y hy
def ks8(j:Nat):Int:=([0,1,2,11,12,127,128,255]:List Int).getD j 0
theorem ks8_in(j:Nat):0≤ks8 j∧ks8 j≤255:=by
 unfold ks8
 by_cases h:j<8
 ·have:j=0∨j=1∨j=2∨j=3∨j=4∨j=5∨j=6∨j=7:=by omega
  rcases this with rfl|rfl|rfl|rfl|rfl|rfl|rfl|rfl<;>simp[List.getD]
 ·unfold List.getD
  rw[List.getElem?_eq_none (by simp;omega)]
  simp
theorem by_set{xs:List Int}(h:By xs)(i:Nat){y:Int}(hy:0≤y∧y≤255):By (xs.set i y):=by
 intro z hz
 rcases List.mem_or_eq_of_mem_set hz with a|a
 ·exact h z a
 ·rw[a];exact hy
theorem by_take{xs:List Int}(h:By xs)(i:Nat):By (xs.take i):=fun z hz=>h z (List.mem_of_mem_take hz)
theorem own_cap{w:World}{base g n cap:Nat}{xs:List Int}(h:ByteH.Own w base g n cap xs):n≤cap:=by
 rcases h.2 with⟨h1,_⟩|⟨g',c,cur,h1,_,_,h2,_⟩
 ·simp at h1
 ·have:g=g'∧cap=c:=by simpa using h1
  rw[this.2]
  exact h2
theorem drawB(w0 w:World)(c:Nat)(a:Option Addr)(len cap g n k:Nat)(xs:List Int)(hl:len≤1048576)(hcode:CodeAt w0 a len)(h:Cur w0 w c a len cap)(ho:ByteH.Own w w0.heap.size g n k xs)(hb:By xs)(hn:n≤80)(hk:n≤k)(gne:g≠c):
  Calls Tryz.prog 24 #[.pointer (some ⟨c,0,none⟩),.slice (some ⟨g,0,none⟩) n k] w fun e w'=>∃(ys:List Int) (g' k':Nat),e= .returned (.slice (some ⟨g',0,none⟩) ys.length k')∧ByteH.Own w' w0.heap.size g' ys.length k' ys∧ys.length≤81∧By ys∧Below w0.heap.size w0 w':=by
 have HC:=zh hcode
 have C:=zh h
 have O:=zh ho
 have BY:=zh hb
 have LN:=zh ho.len
 clear hcode h ho hb
 by_cases z:n=0
 ·have np:¬(0:Int)<n:=by omega
  clear z
  go_enter Tryz.func24,Tryz.ntmps24
  go_wp2_with fail
  refine(once w0 _ c a len cap 9 hl (zu HC) (zu C) (by omega)).mono ?_
  rintro e v5 ⟨⟨tb,rfl⟩,h5⟩
  replace O:=zh (bytes_only (zu O) h5.2 gne)
  replace C:=zh h5.1
  clear h5
  cases tb
  ·go_wp2_with fail
   refine(once w0 _ c a len cap 9 hl (zu HC) (zu C) (by omega)).mono ?_
   rintro e v9 ⟨⟨tb,rfl⟩,h9⟩
   replace O:=zh (bytes_only (zu O) h9.2 gne)
   replace C:=zh h9.1
   clear h9
   cases tb
   ·go_wp2
    go_ret
    exact⟨xs,g,k,by rw[zu LN];rfl,by rw[zu LN];exact zu O,by rw[zu LN];omega,zu BY,(zu C).bel⟩
   ·have hs:=(zu C).bel.size
    have og:=(zu O).lt
    go_wp2_with (first|(at_builtin;refine wp_catB _ rfl _ _ rfl w0.heap.size g n k 1 xs [0] v9.heap.size 0 1 rfl rfl (own_alloc (zu O) _) rfl (lit_one _ _) (by omega) (by simp;omega) ?_)|go_in)
    intro g8 c8 v8 o8 gr8 _
    have B8:=zh (((zu C).bel.alloc hs (.cells #[.int .u8 0] 5)).grown gr8 (by simp;omega) (fun j hj=>by cases hj;exact og.1))
    have O8:=zh o8
    clear gr8 o8
    go_wp2
    go_ret
    have el:(xs++[0]).length=n+1:=by rw[List.length_append,zu LN];rfl
    exact⟨xs++[0],g8,c8,by rw[el];rfl,by rw[el];exact zu O8,by rw[el];omega,fun z hz=>by
     rcases List.mem_append.1 hz with h|h
     ·exact(zu BY) z h
     ·simp at h;omega,zu B8⟩
  ·have n1:wrap64 ((n:Int)+1)=n+1:=by rw[wrap64];omega
   go_wp2_with fail
   refine(below w0 _ c a len cap (n+1) hl (zu HC) (zu C) (by omega)).mono ?_
   rintro e v6 ⟨⟨m,m0,m1,rfl⟩,h6⟩
   obtain⟨m,rfl⟩:∃q:Nat,m=q:=⟨m.toNat,by omega⟩
   have mn:m≤n:=by omega
   replace O:=zh (own_take (bytes_only (zu O) h6.2 gne) m mn)
   replace C:=zh h6.1
   replace BY:=zh (by_take (zu BY) m)
   replace LN:=zh (show(xs.take m).length=m from by rw[List.length_take,zu LN];omega)
   have kc:(m:Int)≤k:=by omega
   clear h6 n1 m0 m1
   go_wp2_with fail
   refine(once w0 _ c a len cap 9 hl (zu HC) (zu C) (by omega)).mono ?_
   rintro e v9 ⟨⟨tb,rfl⟩,h9⟩
   replace O:=zh (bytes_only (zu O) h9.2 gne)
   replace C:=zh h9.1
   clear h9
   cases tb
   ·go_wp2
    go_ret
    exact⟨(xs.take m),g,k,by rw[zu LN];rfl,by rw[zu LN];exact zu O,by rw[zu LN];omega,zu BY,(zu C).bel⟩
   ·have hs:=(zu C).bel.size
    have og:=(zu O).lt
    go_wp2_with (first|(at_builtin;refine wp_catB _ rfl _ _ rfl w0.heap.size g m k 1 (xs.take m) [0] v9.heap.size 0 1 rfl rfl (own_alloc (zu O) _) rfl (lit_one _ _) (by omega) (by simp;omega) ?_)|go_in)
    intro g8 c8 v8 o8 gr8 _
    have B8:=zh (((zu C).bel.alloc hs (.cells #[.int .u8 0] 5)).grown gr8 (by simp;omega) (fun j hj=>by cases hj;exact og.1))
    have O8:=zh o8
    clear gr8 o8
    go_wp2
    go_ret
    have el:((xs.take m)++[0]).length=m+1:=by rw[List.length_append,zu LN];rfl
    exact⟨(xs.take m)++[0],g8,c8,by rw[el];rfl,by rw[el];exact zu O8,by rw[el];omega,fun z hz=>by
     rcases List.mem_append.1 hz with h|h
     ·exact(zu BY) z h
     ·simp at h;omega,zu B8⟩
 have np:(0:Int)<n:=by omega
 go_enter Tryz.func24,Tryz.ntmps24
 go_wp2_with fail
 refine(once w0 _ c a len cap 3 hl (zu HC) (zu C) (by omega)).mono ?_
 rintro e v1 ⟨⟨tb,rfl⟩,h1⟩
 replace O:=zh (bytes_only (zu O) h1.2 gne)
 replace C:=zh h1.1
 clear h1
 cases tb
 ·go_wp2_with fail
  refine(once w0 _ c a len cap 9 hl (zu HC) (zu C) (by omega)).mono ?_
  rintro e v5 ⟨⟨tb,rfl⟩,h5⟩
  replace O:=zh (bytes_only (zu O) h5.2 gne)
  replace C:=zh h5.1
  clear h5
  cases tb
  ·go_wp2_with fail
   refine(once w0 _ c a len cap 9 hl (zu HC) (zu C) (by omega)).mono ?_
   rintro e v9 ⟨⟨tb,rfl⟩,h9⟩
   replace O:=zh (bytes_only (zu O) h9.2 gne)
   replace C:=zh h9.1
   clear h9
   cases tb
   ·go_wp2
    go_ret
    exact⟨xs,g,k,by rw[zu LN];rfl,by rw[zu LN];exact zu O,by rw[zu LN];omega,zu BY,(zu C).bel⟩
   ·have hs:=(zu C).bel.size
    have og:=(zu O).lt
    go_wp2_with (first|(at_builtin;refine wp_catB _ rfl _ _ rfl w0.heap.size g n k 1 xs [0] v9.heap.size 0 1 rfl rfl (own_alloc (zu O) _) rfl (lit_one _ _) (by omega) (by simp;omega) ?_)|go_in)
    intro g8 c8 v8 o8 gr8 _
    have B8:=zh (((zu C).bel.alloc hs (.cells #[.int .u8 0] 5)).grown gr8 (by simp;omega) (fun j hj=>by cases hj;exact og.1))
    have O8:=zh o8
    clear gr8 o8
    go_wp2
    go_ret
    have el:(xs++[0]).length=n+1:=by rw[List.length_append,zu LN];rfl
    exact⟨xs++[0],g8,c8,by rw[el];rfl,by rw[el];exact zu O8,by rw[el];omega,fun z hz=>by
     rcases List.mem_append.1 hz with h|h
     ·exact(zu BY) z h
     ·simp at h;omega,zu B8⟩
  ·have n1:wrap64 ((n:Int)+1)=n+1:=by rw[wrap64];omega
   go_wp2_with fail
   refine(below w0 _ c a len cap (n+1) hl (zu HC) (zu C) (by omega)).mono ?_
   rintro e v6 ⟨⟨m,m0,m1,rfl⟩,h6⟩
   obtain⟨m,rfl⟩:∃q:Nat,m=q:=⟨m.toNat,by omega⟩
   have mn:m≤n:=by omega
   replace O:=zh (own_take (bytes_only (zu O) h6.2 gne) m mn)
   replace C:=zh h6.1
   replace BY:=zh (by_take (zu BY) m)
   replace LN:=zh (show(xs.take m).length=m from by rw[List.length_take,zu LN];omega)
   have kc:(m:Int)≤k:=by omega
   clear h6 n1 m0 m1
   go_wp2_with fail
   refine(once w0 _ c a len cap 9 hl (zu HC) (zu C) (by omega)).mono ?_
   rintro e v9 ⟨⟨tb,rfl⟩,h9⟩
   replace O:=zh (bytes_only (zu O) h9.2 gne)
   replace C:=zh h9.1
   clear h9
   cases tb
   ·go_wp2
    go_ret
    exact⟨(xs.take m),g,k,by rw[zu LN];rfl,by rw[zu LN];exact zu O,by rw[zu LN];omega,zu BY,(zu C).bel⟩
   ·have hs:=(zu C).bel.size
    have og:=(zu O).lt
    go_wp2_with (first|(at_builtin;refine wp_catB _ rfl _ _ rfl w0.heap.size g m k 1 (xs.take m) [0] v9.heap.size 0 1 rfl rfl (own_alloc (zu O) _) rfl (lit_one _ _) (by omega) (by simp;omega) ?_)|go_in)
    intro g8 c8 v8 o8 gr8 _
    have B8:=zh (((zu C).bel.alloc hs (.cells #[.int .u8 0] 5)).grown gr8 (by simp;omega) (fun j hj=>by cases hj;exact og.1))
    have O8:=zh o8
    clear gr8 o8
    go_wp2
    go_ret
    have el:((xs.take m)++[0]).length=m+1:=by rw[List.length_append,zu LN];rfl
    exact⟨(xs.take m)++[0],g8,c8,by rw[el];rfl,by rw[el];exact zu O8,by rw[el];omega,fun z hz=>by
     rcases List.mem_append.1 hz with h|h
     ·exact(zu BY) z h
     ·simp at h;omega,zu B8⟩
 ·go_wp2_with fail
  refine(below w0 _ c a len cap n hl (zu HC) (zu C) (by omega)).mono ?_
  rintro e v2 ⟨⟨i,i0,i1,rfl⟩,h2⟩
  obtain⟨i,rfl⟩:∃q:Nat,i=q:=⟨i.toNat,by omega⟩
  replace O:=zh (bytes_only (zu O) h2.2 gne)
  replace C:=zh h2.1
  clear h2
  have ch:=(zu C).hi
  go_wp2_with fail
  refine(pick w0 _ c a len cap v2.heap.size 8 ks8 hl (zu HC) (Draw.Cur.alloc (zu C) _ _) (by omega) (by omega) (by simp) (by omega) (fun j hj=>?_)).mono ?_
  ·have:j=0∨j=1∨j=2∨j=3∨j=4∨j=5∨j=6∨j=7:=by omega
   rcases this with rfl|rfl|rfl|rfl|rfl|rfl|rfl|rfl<;>simp[ks8,List.getD]
  rintro e v3 ⟨⟨j,hj,rfl⟩,h3⟩
  replace O:=zh (bytes_only (own_alloc (zu O) (.cells #[.int .i64 0,.int .i64 1,.int .i64 2,.int .i64 11,.int .i64 12,.int .i64 127,.int .i64 128,.int .i64 255] 3)) h3.2 gne)
  replace C:=zh h3.1
  have K8:=ks8_in j
  clear h3
  generalize ks8 j=y at *
  have il:i<n:=by omega
  have cc:=(zu O).at i (by rw[zu LN];exact il)
  have cf:=(zu O).free i
  have st:=(zu O).set i y
  have og:=(zu O).lt
  replace O:=zh st.1
  replace C:=zh (Draw.cur_grown (zu C) st.2 og.1 gne)
  replace BY:=zh (by_set (zu BY) i K8)
  replace LN:=zh (show(xs.set i y).length=n from by rw[List.length_set];exact zu LN)
  have e8:IntKind.u8.wrap y=y:=by rw[IntKind.wrap_u8];omega
  clear st
  go_wp2_with fail
  clear e8 cc cf K8 il i0 i1 og
  generalize v3.setCell ⟨g,i,none⟩ (.int .u8 y)=v4 at *
  generalize xs.set i y=ys at *
  refine(once w0 _ c a len cap 9 hl (zu HC) (zu C) (by omega)).mono ?_
  rintro e v5 ⟨⟨tb,rfl⟩,h5⟩
  replace O:=zh (bytes_only (zu O) h5.2 gne)
  replace C:=zh h5.1
  clear h5
  cases tb
  ·go_wp2_with fail
   refine(once w0 _ c a len cap 9 hl (zu HC) (zu C) (by omega)).mono ?_
   rintro e v9 ⟨⟨tb,rfl⟩,h9⟩
   replace O:=zh (bytes_only (zu O) h9.2 gne)
   replace C:=zh h9.1
   clear h9
   cases tb
   ·go_wp2
    go_ret
    exact⟨ys,g,k,by rw[zu LN];rfl,by rw[zu LN];exact zu O,by rw[zu LN];omega,zu BY,(zu C).bel⟩
   ·have hs:=(zu C).bel.size
    have og:=(zu O).lt
    go_wp2_with (first|(at_builtin;refine wp_catB _ rfl _ _ rfl w0.heap.size g n k 1 ys [0] v9.heap.size 0 1 rfl rfl (own_alloc (zu O) _) rfl (lit_one _ _) (by omega) (by simp;omega) ?_)|go_in)
    intro g8 c8 v8 o8 gr8 _
    have B8:=zh (((zu C).bel.alloc hs (.cells #[.int .u8 0] 5)).grown gr8 (by simp;omega) (fun j hj=>by cases hj;exact og.1))
    have O8:=zh o8
    clear gr8 o8
    go_wp2
    go_ret
    have el:(ys++[0]).length=n+1:=by rw[List.length_append,zu LN];rfl
    exact⟨ys++[0],g8,c8,by rw[el];rfl,by rw[el];exact zu O8,by rw[el];omega,fun z hz=>by
     rcases List.mem_append.1 hz with h|h
     ·exact(zu BY) z h
     ·simp at h;omega,zu B8⟩
  ·have n1:wrap64 ((n:Int)+1)=n+1:=by rw[wrap64];omega
   go_wp2_with fail
   refine(below w0 _ c a len cap (n+1) hl (zu HC) (zu C) (by omega)).mono ?_
   rintro e v6 ⟨⟨m,m0,m1,rfl⟩,h6⟩
   obtain⟨m,rfl⟩:∃q:Nat,m=q:=⟨m.toNat,by omega⟩
   have mn:m≤n:=by omega
   replace O:=zh (own_take (bytes_only (zu O) h6.2 gne) m mn)
   replace C:=zh h6.1
   replace BY:=zh (by_take (zu BY) m)
   replace LN:=zh (show(ys.take m).length=m from by rw[List.length_take,zu LN];omega)
   have kc:(m:Int)≤k:=by omega
   clear h6 n1 m0 m1
   go_wp2_with fail
   refine(once w0 _ c a len cap 9 hl (zu HC) (zu C) (by omega)).mono ?_
   rintro e v9 ⟨⟨tb,rfl⟩,h9⟩
   replace O:=zh (bytes_only (zu O) h9.2 gne)
   replace C:=zh h9.1
   clear h9
   cases tb
   ·go_wp2
    go_ret
    exact⟨(ys.take m),g,k,by rw[zu LN];rfl,by rw[zu LN];exact zu O,by rw[zu LN];omega,zu BY,(zu C).bel⟩
   ·have hs:=(zu C).bel.size
    have og:=(zu O).lt
    go_wp2_with (first|(at_builtin;refine wp_catB _ rfl _ _ rfl w0.heap.size g m k 1 (ys.take m) [0] v9.heap.size 0 1 rfl rfl (own_alloc (zu O) _) rfl (lit_one _ _) (by omega) (by simp;omega) ?_)|go_in)
    intro g8 c8 v8 o8 gr8 _
    have B8:=zh (((zu C).bel.alloc hs (.cells #[.int .u8 0] 5)).grown gr8 (by simp;omega) (fun j hj=>by cases hj;exact og.1))
    have O8:=zh o8
    clear gr8 o8
    go_wp2
    go_ret
    have el:((ys.take m)++[0]).length=m+1:=by rw[List.length_append,zu LN];rfl
    exact⟨(ys.take m)++[0],g8,c8,by rw[el];rfl,by rw[el];exact zu O8,by rw[el];omega,fun z hz=>by
     rcases List.mem_append.1 hz with h|h
     ·exact(zu BY) z h
     ·simp at h;omega,zu B8⟩
end DrawB12
namespace RTC12
open SBytes SPut11 SPuts11 SCmd SPackC12 SReadC12 RT11 RT12
open DrawB12 (By by_numB)
theorem okx{k:Int}{xs:List Int}(h:CmOk k xs):∀x∈xs,0≤x∧x≤1000000000000000:=by
 intro x hx
 obtain⟨i,hi,e⟩:=List.mem_iff_getElem.1 hx
 have:=h.2 i hi
 rw[List.getD,List.getElem?_eq_getElem hi] at this
 rw[←e]
 exact this
theorem packC_flat{k:Int}{xs:List Int}(h:CmOk k xs):packC true k xs=(k::xs).flatMap numB:=by
 unfold packC
 rw[if_pos rfl]
 have:numsB xs=xs.flatMap numB:=if_pos (fun i hi=>(h.2 i hi).1)
 rw[this]
 rfl
theorem flat_len:∀xs:List Int,(∀x∈xs,x≤9223372036854775807)→(xs.flatMap numB).length≤9*xs.length
 |[],_=>by simp
 |x::r,h=>by
  have a:=numB_nine (h x (by simp))
  have b:=flat_len r (fun y hy=>h y (by simp[hy]))
  rw[List.flatMap_cons,List.length_append,List.length_cons]
  omega
theorem len7{k:Int}{xs:List Int}(h:CmOk k xs):xs.length≤7:=by
 have a:=h.1
 have b:=nArgs_le k
 omega
theorem packC_len{k:Int}{xs:List Int}(b:Bool)(h:b=true→CmOk k xs):(packC b k xs).length≤72:=by
 cases b
 ·simp[packC]
 ·have o:=h rfl
  rw[packC_flat o]
  have kk:=kind_in o
  have a:=flat_len (k::xs) (fun x hx=>by
   rcases List.mem_cons.1 hx with rfl|hx
   ·omega
   ·have:=okx o x hx;omega)
  have l:=len7 o
  rw[List.length_cons] at a
  omega
theorem by_packC{k:Int}{xs:List Int}(b:Bool)(h:b=true→CmOk k xs):By (packC b k xs):=by
 cases b
 ·intro y hy;simp[packC] at hy
 ·have o:=h rfl
  rw[packC_flat o]
  have kk:=kind_in o
  intro y hy
  obtain⟨x,hx,hy⟩:=List.mem_flatMap.1 hy
  refine by_numB ?_ y hy
  rcases List.mem_cons.1 hx with rfl|hx
  ·omega
  ·have:=okx o x hx;omega
theorem numB_of{k:Int}(h:0≤k):numB k=numF k.toNat:=if_neg (by omega)
theorem read_packC{k:Int}{xs:List Int}(h:CmOk k xs):readC (packC true k xs)=(k,xs,true):=by
 have kk:=kind_in h
 have l7:=len7 h
 have e:packC true k xs=numF k.toNat++(xs.flatMap numB++[]):=by
  rw[packC_flat h,List.flatMap_cons,numB_of (by omega),List.append_nil]
 have gn:=getN_num [] (xs.flatMap numB++[]) k.toNat (by omega)
 rw[List.nil_append,←e] at gn
 simp only[List.length_nil,Nat.zero_add] at gn
 have gs:=gets_nums xs (numF k.toNat) [] [] (fun x hx=>by have:=okx h x hx;omega) (packC true k xs) e
 rw[List.nil_append] at gs
 have ln:(packC true k xs).length=(numF k.toNat).length+(xs.flatMap numB).length:=by rw[e];simp
 have gs2:getsN (packC true k xs) ((numF k.toNat).length:Nat) (nArgs k)=(xs,(((numF k.toNat).length+(xs.flatMap numB).length:Nat):Int),true):=by
  unfold getsN
  have a:=h.1
  rw[if_pos ⟨⟨by omega,by omega⟩,by omega,by omega⟩,←a,Int.toNat_natCast]
  exact gs
 have e0:((0:Nat):Int)=0:=rfl
 rw[e0] at gn
 unfold readC
 rw[gn]
 simp only
 rw[show((k.toNat:Nat):Int)=k by omega,gs2]
 simp only
 rw[if_pos ⟨trivial,by have a:=h.1;omega,trivial,by rw[ln],(okB_says k xs).of h⟩]
theorem pack_readC(xs:List Int)(hb:∀i,i<xs.length→0≤xs.getD i 0∧xs.getD i 0≤255)(h:(readC xs).2.2=true):CmOk (readC xs).1 (readC xs).2.1∧packC true (readC xs).1 (readC xs).2.1=xs:=by
 unfold readC at h⊢
 split at h
 ·next o=>
  rw[if_pos o]
  obtain⟨o1,o2,o3,o4,o5⟩:=o
  have ok:=((okB_says _ _).1 o5)
  simp only
  refine⟨ok,?_⟩
  rw[packC_flat ok]
  obtain⟨n1,n2,n3⟩:=getN_inv xs hb 0 o1
  have z0:((0:Nat):Int)=0:=rfl
  rw[z0] at n1 n2 n3
  rw[Nat.zero_add] at n1 n3
  rw[n1] at o3 o4⊢
  generalize (getN xs 0).1=k at *
  have gd:getsN xs (((numB k).length:Nat):Int) (nArgs k)=gets xs (nArgs k).toNat (((numB k).length:Nat):Int) []:=by
   unfold getsN at o3⊢
   split at o3
   ·next c=>rw[if_pos c]
   ·simp at o3
  rw[gd] at o3 o4⊢
  obtain⟨ns,e1,e2,e3,e4⟩:=gets_inv xs hb (nArgs k).toNat (numB k).length [] n3 o3
  rw[List.nil_append] at e1
  rw[e2] at o4
  rw[e1,List.flatMap_cons]
  have fl:(numB k).length+(ns.flatMap numB).length=xs.length:=by omega
  have pa:=piece_add xs 0 (numB k).length (ns.flatMap numB).length (by omega)
  rw[Nat.zero_add,n2,e3,fl] at pa
  rw[←pa]
  simp[piece]
 ·simp at h
theorem readC_none{xs:List Int}(h:(readC xs).2.2=false):(readC xs).1=0∧(readC xs).2.1=[]:=by
 unfold readC at h⊢
 split at h
 ·simp at h
 ·next o=>rw[if_neg o];exact⟨rfl,rfl⟩
end RTC12
end Go.Proofs.YtcjgepkdpkhljaaGreat
