/- Lemmas. -/
import Derived.Test.YtcjgepkdpkhljaaGreatQG33
import Derived.Test.YtcjgepkdpkhljaaGreatQG35
open Go.ChangeShapes Go.WideShapes Go.ChangeAt Go.RowKit
set_option linter.unusedVariables false
set_option linter.unusedSimpArgs false
set_option maxRecDepth 100000
set_option maxHeartbeats 32000000
namespace Go.Proofs.YtcjgepkdpkhljaaGreat
namespace IRead12
open SBytes SPut11 SPuts11 SPack12 IRd11 IInto12 IMsg12 IPack12 SRead12
open ICmd10 (Ptr)
open Lots (Says says_of)
theorem two_end{u:World}{base t g:Nat}{v0 v1:Value}(h:B2 t u base g v0 v1)(a b:Value)(o:Obj):Tg (((u.setCell ⟨g,0,none⟩ a).setCell ⟨g,1,none⟩ b).alloc o) base t 2 g [a,b]:=
 ((Tg.set (Tg.set (show Tg u base t 2 g [v0,v1] from h) 0 a).1 1 b).1).step (one_more _ _)
end IRead12
namespace IReadC12
open SBytes SPut11 SPuts11 SPack12 IRd11 IInto12 IMsg12 IPack12 SRead12 SReadC12
open ICmd10 (Ptr iNone no_args)
open ICall10 (Made made_of tyC)
open SCmd (CmOk nArgs nArgs_le)
open Lots (Says says_of)
theorem getN_one(xs:List Int)(x:Int):gets xs 1 x []=if(getN xs x).2.2=true then([(getN xs x).1],(getN xs x).2.1,true) else([],0,false):=rfl
theorem getN_place(xs:List Int)(x:Int)(h:(getN xs x).2.2=true):0≤(getN xs x).2.1∧(getN xs x).2.1≤xs.length:=by
 have:∀f k,(getF xs x.toNat f k).2.2=true→0≤(getF xs x.toNat f k).2.1∧(getF xs x.toNat f k).2.1≤xs.length:=by
  intro f
  induction f with
  |zero=>intro k;simp[getF]
  |succ f ih=>
   intro k h
   simp only[getF] at h⊢
   by_cases a:x.toNat+k<xs.length
   ·rw[if_pos a] at h⊢
    by_cases b:xs.getD (x.toNat+k) 0<128
    ·rw[if_pos b] at h⊢
     by_cases c:xs.getD (x.toNat+k) 0=0∧0<k
     ·rw[if_pos c] at h;simp at h
     ·rw[if_neg c];simp only;omega
    ·rw[if_neg b] at h⊢
     exact ih (k+1) h
   ·rw[if_neg a] at h;simp at h
 unfold getN at h⊢
 by_cases a:x<0∨(xs.length:Int)≤x
 ·rw[if_pos a] at h;simp at h
 ·rw[if_neg a] at h⊢
  exact this 9 0 h
def oneC(xs:List Int):Option (Int×List Int×Int):=
 if(getN xs 0).2.2=true∧0≤nArgs (getN xs 0).1∧(gets xs (nArgs (getN xs 0).1).toNat (getN xs 0).2.1 []).2.2=true then some ((getN xs 0).1,(gets xs (nArgs (getN xs 0).1).toNat (getN xs 0).2.1 []).1,(gets xs (nArgs (getN xs 0).1).toNat (getN xs 0).2.1 []).2.1) else none
theorem readC_one(xs:List Int):readC xs=match oneC xs with|none=>(0,[],false)|some (k,q,p)=>if p=xs.length∧okB k q=true then(k,q,true) else(0,[],false):=by
 unfold readC oneC
 by_cases h0:(getN xs 0).2.2=true
 ·by_cases h1:0≤nArgs (getN xs 0).1
  ·have e:getsN xs (getN xs 0).2.1 (nArgs (getN xs 0).1)=gets xs (nArgs (getN xs 0).1).toNat (getN xs 0).2.1 []:=by
    unfold getsN
    have:=getN_place xs 0 h0
    have:=nArgs_le (getN xs 0).1
    rw[if_pos (by omega)]
   rw[e]
   by_cases h2:(gets xs (nArgs (getN xs 0).1).toNat (getN xs 0).2.1 []).2.2=true
   ·simp[h0,h1,h2]
   ·simp[h2]
  ·simp[h1]
 ·simp[h0]
def ToldC(w:World)(base p:Nat)(r:Option (Int×List Int×Int))(e:Ending)(w':World):Prop:=
 Below base w w'∧((r=none∧e= .returned .nilIface)∨∃k q s g c,r=some (k,q,s)∧e= .returned (.iface 26 (.agg #[.int .i64 k,.slice (some ⟨g,0,none⟩) q.length c]))∧Pl w' base p s∧Ints.Own w' base g q.length c q∧q.length≤7)
theorem ptr1(u:World)(d:Nat):Ptr (u.alloc (.cells #[.pointer (some ⟨d,0,none⟩)] 90)) u.heap.size d 1:=by
 intro i hi
 have:i=0:=by omega
 subst this
 simp
theorem one_at(w:World)(a:Int):AtI (w.alloc (.cells #[.int .i64 a] 3)) w.heap.size [a]:=by
 intro i hi
 have:i=0:=by simpa using hi
 subst this
 simp
theorem cell_off{u:World}{g i d o:Nat}{v z:Value}(h:u.cell? ⟨g,i,none⟩=some v)(hn:g≠d):(u.setCell ⟨d,o,none⟩ z).cell? ⟨g,i,none⟩=some v:=
 (World.cell?_of_block (w:=u) (Below.heap_setCell _ _ _ _ (fun e=>hn e))).trans h
theorem take_more{q:List Int}{j:Nat}{x:Int}(hx:q.getD j 0=x)(h:j<q.length):q.take (j+1)=q.take j++[x]:=by
 rw[List.take_add_one,←hx]
 simp[List.getD,h]
theorem Gr2.then_{w w1 w2:World}{a b:Nat}(h:Gr2 w w1 a b)(k:w2.os=w1.os∧w2.tape=w1.tape∧w2.output=w1.output∧w1.heap.size≤w2.heap.size∧∀i,i<w.heap.size→i≠a→i≠b→w2.heap[i]?=w1.heap[i]?):Gr2 w w2 a b:=
 ⟨k.1.trans h.os,k.2.1.trans h.tape,k.2.2.1.trans h.output,Nat.le_trans h.size k.2.2.2.1,fun i hi h1 h2=>(k.2.2.2.2 i hi h1 h2).trans (h.block i hi h1 h2)⟩
theorem Gr2.one{w w1:World}{a:Nat}(h:Gr2 w w1 a a):w.grownBy w1 (some a):=
 ⟨h.os,h.tape,h.output,h.size,fun i hi hr=>h.block i hi (fun e=>hr (by rw[e])) (fun e=>hr (by rw[e]))⟩
theorem iReadC(w:World)(gl cl p base:Nat)(xs:List Int)(h20:xs.length≤1048576)(hc:xs.length≤cl)(hg:gl<base)(hr:AtB w gl xs)(hp:Pl w base p 0):
  Calls Tryz.prog 22 #[.agg #[.slice (some ⟨gl,0,none⟩) xs.length cl,.pointer (some ⟨p,0,none⟩)]] w (ToldC w base p (oneC xs)):=by
 have lp:=hp.lt
 let A1:=w.alloc (.cells #[.slice (some ⟨gl,0,none⟩) xs.length cl,.pointer (some ⟨p,0,none⟩)] 92)
 let A2:=A1.alloc (.cells #[.int .i64 0,.slice none 0 0] 26)
 let A3:=A2.alloc (.cells #[.pointer (some ⟨w.heap.size+1,0,none⟩)] 90)
 have z1:A1.heap.size=w.heap.size+1:=by simp[A1]
 have z2:A2.heap.size=w.heap.size+2:=by simp[A2,z1]
 have z3:A3.heap.size=w.heap.size+3:=by simp[A3,z2]
 have b1:Below w.heap.size w A1:=one_more _ _
 have b2:Below w.heap.size w A2:=b1.alloc (by omega) _
 have b3:Below w.heap.size w A3:=b2.alloc (by omega) _
 have r1:=rd_box w (.slice (some ⟨gl,0,none⟩) xs.length cl) (.pointer (some ⟨p,0,none⟩))
 have bA:Below A1.heap.size A1 A3:=(one_more A1 _).trans ((one_more A2 _).mono (by omega))
 have r3:A3.cell? ⟨w.heap.size,0,none⟩=some (.slice (some ⟨gl,0,none⟩) xs.length cl)∧A3.cell? ⟨w.heap.size,1,none⟩=some (.pointer (some ⟨p,0,none⟩)):=
  ⟨(bA.cell (p:=⟨w.heap.size,0,none⟩) (by show w.heap.size<_;omega)).trans r1.1,(bA.cell (p:=⟨w.heap.size,1,none⟩) (by show w.heap.size<_;omega)).trans r1.2⟩
 have t2:Tg A2 base 26 2 (w.heap.size+1) [.int .i64 0,.slice none 0 0]:=by
  have:=World.ownsRow_lit (base:=base) (size:=2) (e:=26) A1 #[.int .i64 0,.slice none 0 0] 1 (by omega) (by decide) rfl
  rw[z1] at this
  exact this
 have t3:Tg A3 base 26 2 (w.heap.size+1) [.int .i64 0,.slice none 0 0]:=t2.step (one_more _ _)
 have P3:=zh (hp.below b3 lp.2)
 have R3:=zh (AtB.below hr b3 (by omega))
 have Q3:=zh (show Ptr A3 (w.heap.size+2) (w.heap.size+1) 1 from by have:=ptr1 A2 (w.heap.size+1);rw[z2] at this;exact this)
 have IN:=zh (iInto A3 gl cl p base 26 2 (w.heap.size+1) (w.heap.size+2) 1 1 xs 0 [.int .i64 0,.slice none 0 0] (by omega) h20 hc hg (zu R3) (zu P3) t3 (fun i hi=>by
  have:i=0:=by omega
  subst this
  exact⟨0,rfl⟩) (zu Q3) (by omega) (by omega) (by omega) (by omega) (by omega))
 have B3:=zh (b3.mono (show base≤w.heap.size by omega))
 have Z3:=zh z3
 have RB:=zh r3
 have R0:=zh hr
 clear hr hp t2 t3 b1 b2 b3 z1 z2 z3 Q3 R3 P3 r1 r3 bA
 have TW:=zh (show oneC xs=if(getN xs 0).2.2=true∧0≤nArgs (getN xs 0).1∧(gets xs (nArgs (getN xs 0).1).toNat (getN xs 0).2.1 []).2.2=true then some ((getN xs 0).1,(gets xs (nArgs (getN xs 0).1).toNat (getN xs 0).2.1 []).1,(gets xs (nArgs (getN xs 0).1).toNat (getN xs 0).2.1 []).2.1) else none from rfl)
 have GP:=zh (getN_place xs 0)
 rw[getN_one] at IN
 generalize oneC xs=tw at *
 generalize getN xs 0=y at *
 obtain⟨k,s,y2⟩:=y
 simp only at TW GP IN
 cases y2 with
 |false=>
  have TN:=zh (show tw=none from by rw[zu TW];simp)
  clear TW GP
  rw[if_neg (by simp)] at IN
  go_enter Tryz.func22,Tryz.ntmps22
  go_wp2_with fail
  refine(zu IN).mono ?_
  rintro e u ⟨rfl,g1,-⟩
  have B4:=zh ((zu B3).trans (g1.to (B:=base) (by have:=zu Z3;omega) lp.1 (by omega)))
  clear g1
  go_wp2
  go_ret
  exact⟨zu B4,.inl ⟨zu TN,rfl⟩⟩
 |true=>
 obtain⟨s0,s1⟩:=(zu GP) rfl
 rw[if_pos rfl] at IN
 go_enter Tryz.func22,Tryz.ntmps22
 go_wp2_with fail
 refine(zu IN).mono ?_
 rintro e u ⟨rfl,g1,h1⟩
 obtain⟨p1,t1⟩:=h1 (by simp)
 have us:=g1.size
 have z3:=zu Z3
 have B4:=zh ((zu B3).trans (g1.to (B:=base) (by omega) lp.1 (by omega)))
 have T4:=zh (show Tg u base 26 2 (w.heap.size+1) [.int .i64 k,.slice none 0 0] from t1)
 have P4:=zh (show Pl u base p s from p1)
 have RC:=zh (And.intro ((g1.cell 0 (g:=w.heap.size) (by omega) (by omega) (by omega)).trans (zu RB).1) ((g1.cell 1 (g:=w.heap.size) (by omega) (by omega) (by omega)).trans (zu RB).2))
 clear g1 h1 p1 t1 IN RB B3 Z3 GP
 have c0:=(zu T4).at (i:=0) rfl
 have c1:=(zu T4).at (i:=1) rfl
 by_cases h0:k<1∨11<k
 ·have TN:=zh (show tw=none from by rw[zu TW,if_neg];rw[no_args h0];omega)
  have H0:=zh h0
  clear h0 TW
  go_wp2_with fail
  refine(iNone _ k (zu H0)).mono ?_
  rintro e u2 ⟨rfl,rfl⟩
  go_wp2
  go_ret
  exact⟨zu B4,.inl ⟨zu TN,rfl⟩⟩
 obtain⟨sz,f,n,M⟩:=made_of k h0
 have NA:=zh M.na
 have HM:=zh M
 have hm:=M.me
 have hE:=M.en
 have n7:n≤7:=by have:=nArgs_le k;rw[M.na] at this;omega
 have n1:1≤n:=by
  have:=M.na
  unfold nArgs at this
  repeat' split at this
  all_goals omega
 have TN:=zh (show tw=if(gets xs n s []).2.2=true then some (k,(gets xs n s []).1,(gets xs n s []).2.1) else none from by
  rw[zu TW,M.na,Int.toNat_natCast]
  simp)
 clear h0 M TW
 generalize hT:tyC k=ty at *
 clear hT
 go_wp2_with fail
 refine((zu HM).nw _).mono ?_
 rintro e u2 ⟨rfl,r2,bb⟩
 have B5:=zh ((zu B4).trans (bb.mono (by omega)))
 have T5:=zh ((zu T4).step bb)
 have P5:=zh ((zu P4).below bb (zu P4).lt.2)
 have RC5:=zh (And.intro ((bb.cell (p:=⟨w.heap.size,0,none⟩) (by show w.heap.size<_;omega)).trans (zu RC).1) ((bb.cell (p:=⟨w.heap.size,1,none⟩) (by show w.heap.size<_;omega)).trans (zu RC).2))
 have M5:=zh (show Tg u2 u.heap.size sz n u.heap.size ((List.replicate n (0:Int)).map (Value.int .i64)) from r2)
 have lm:=(zu M5).lt
 clear bb r2 c0 c1 B4 T4 P4 RC
 go_wp2_with fail
 clear hm hE
 refine((zu HM).ar _ u.heap.size).mono ?_
 rintro e u3 ⟨g,rfl,hP,hq,bb⟩
 obtain⟨hq1,hq2⟩:=hq
 have B6:=zh ((zu B5).trans (bb.mono (by omega)))
 have T6:=zh ((zu T5).step bb)
 have P6:=zh ((zu P5).below bb (zu P5).lt.2)
 have M6:=zh (((zu M5).step bb).mono (base':=base) (by omega))
 have HP:=zh hP
 have c0:=(bb.cell (p:=⟨w.heap.size,0,none⟩) (by show w.heap.size<_;omega)).trans (zu RC5).1
 have c1:=(bb.cell (p:=⟨w.heap.size,1,none⟩) (by show w.heap.size<_;omega)).trans (zu RC5).2
 have zb:=bb.size
 clear bb hP B5 T5 P5 M5 RC5 HM
 have IN:=zh (iInto u3 gl cl p base sz n u.heap.size g n n xs s ((List.replicate n (0:Int)).map (Value.int .i64)) (by omega) h20 hc hg (AtB.below (zu R0) (zu B6) hg) (zu P6) (zu M6) (fun i hi=>⟨0,by simp[hi]⟩) (zu HP) hq2 (by omega) (by omega) (by omega) (by omega))
 have FU:=zh (gets_full xs n s [])
 generalize gets xs n s []=r at *
 obtain⟨q,s',r2⟩:=r
 simp only at IN TN FU
 go_wp2_with fail
 refine(zu IN).mono ?_
 rintro e u4 ⟨rfl,g4,h4⟩
 have z4:=g4.size
 have B7:=zh ((zu B6).trans (g4.to (B:=base) (by omega) lp.1 (by omega)))
 have T7:=zh ((zu T6).blk (g4.block (w.heap.size+1) (by omega) (by omega) (by omega)))
 have HP4:=zh (show Ptr u4 g u.heap.size n from fun i hi=>(g4.cell i hq2 (by omega) (by omega)).trans ((zu HP) i hi))
 clear g4 c0 c1 IN B6 T6 P6 M6 HP
 cases r2 with
 |false=>
  have TX:=zh (show tw=none from by rw[zu TN];rfl)
  clear TN FU h4
  go_wp2
  go_ret
  exact⟨zu B7,.inl ⟨zu TX,rfl⟩⟩
 |true=>
 have TX:=zh (show tw=some (k,q,s') from by rw[zu TN];rfl)
 have ql:q.length=n:=by have:=(zu FU) rfl;simpa using this
 obtain⟨p4,t4⟩:=h4 rfl
 have P7:=zh p4
 have AT:=zh (show Ints.At u4 u.heap.size q from fun i hi=>t4.at (by
  unfold fill
  rw[List.getElem?_append_left (by simpa using hi)]
  simp[List.getD,hi]))
 have QL:=zh ql
 clear p4 t4 h4 TN FU ql
 go_wp2
 go_loopw [31] (fun i wr=>∃(j:Nat) (a:Option Addr) (c:Nat),i= .int .i64 j∧j≤n∧Hid (Tg wr base 26 2 (w.heap.size+1) [.int .i64 k,.slice a j c])∧Hid (VOI.Ob wr u4.heap.size a j c (q.take j))∧Hid (Gr2 u4 wr (w.heap.size+1) (w.heap.size+1))∧u4.heap.size≤wr.heap.size) (fun i _=>n-(intOf i).toNat)
 case atStart=>exact⟨0,none,0,rfl,by omega,T7,VOI.Ob.nil _ _,Gr2.refl _ _ _,Nat.le_refl _⟩
 case round=>
  clear T7
  obtain⟨j,a,c,rfl,hj,TT,HO,HG,hz⟩:=hrel
  by_cases h:j<n
  case neg=>
   have e:j=n:=by omega
   subst e
   have c0:=(zu TT).at (i:=0) rfl
   have c1:=(zu TT).at (i:=1) rfl
   have gr:=Gr2.one (zu HG)
   have B8:=zh ((zu B7).trans ((zu HG).to (B:=base) (by omega) (by omega) (by omega)))
   have P8:=zh (Ints.Own.kept (zu P7) gr (by simp;omega))
   have O8:=zh (show VOI.Ob wr u4.heap.size a j c q from by have:=zu HO;rw[←zu QL,List.take_length] at this;rw[←zu QL];exact this)
   clear gr HG HO
   go_wp2
   go_ret
   rcases(zu O8).either with⟨_,e,_⟩|⟨ga,rfl,oa⟩
   ·omega
   ·have e:=zu QL
    subst e
    exact⟨zu B8,.inr ⟨k,q,s',ga,c,zu TX,rfl,zu P8,oa.mono (by omega),n7⟩⟩
  have kn:(j:Int)<n:=by omega
  have pk:wr.cell? ⟨g,j,none⟩=some (.pointer (some ⟨u.heap.size,j,none⟩)):=((zu HG).cell j (by omega) (by omega) (by omega)).trans ((zu HP4) j h)
  obtain⟨x,HX⟩:∃x,Hid (q.getD j 0=x):=⟨_,rfl⟩
  have HJ:=zh (show j<q.length by rw[zu QL];exact h)
  have x0:wr.cell? ⟨u.heap.size,j,none⟩=some (.int .i64 x):=by
   have:=((zu HG).cell (g:=u.heap.size) j (by omega) (by omega) (by omega)).trans ((zu AT) j (zu HJ))
   rw[zu HX] at this
   exact this
  have d4:=(zu TT).at (i:=1) rfl
  have bn:Below wr.heap.size wr (wr.alloc (.cells #[.int .i64 x] 3)):=one_more _ _
  have TA:=zh (show Tg (wr.alloc (.cells #[.int .i64 x] 3)).drew base 26 2 (w.heap.size+1) [.int .i64 k,.slice a j c] from(zu TT).step bn.drew)
  have HA:=zh (show VOI.Ob (wr.alloc (.cells #[.int .i64 x] 3)).drew u4.heap.size a j c (q.take j) from(zu HO).step bn.drew)
  have x5:(wr.alloc (.cells #[.int .i64 x] 3)).drew.cell? ⟨u.heap.size,j,none⟩=some (.int .i64 x):=(bn.cell (p:=⟨u.heap.size,j,none⟩) (by show u.heap.size<wr.heap.size;omega)).trans x0
  have d5:(wr.alloc (.cells #[.int .i64 x] 3)).cell? ⟨w.heap.size+1,1,none⟩=some (.slice a j c):=(zu TA).at (i:=1) rfl
  have ZA:=zh (show(wr.alloc (.cells #[.int .i64 x] 3)).drew.heap.size=wr.heap.size+1 from by simp)
  have HB:=zh (zu HO).btw
  clear bn
  go_wp2_with fail
  refine wp_region_held_drew (S:=(fun w'=>w'.cell? ⟨u.heap.size,j,none⟩=some (.int .i64 x))) (by kernel_rfl) x0 (fun hHeld=>?_)
  refine zT 0 35 (.pointer (some ⟨w.heap.size+1,1,none⟩)) rfl hHeld ?_
  refine zT 2 37 (.pointer (some ⟨u.heap.size,j,none⟩)) rfl hHeld ?_
  refine zT 3 38 (.pointer (some ⟨u.heap.size,j,none⟩)) rfl hHeld ?_
  refine zT 4 39 (.int .i64 x) rfl hHeld ?_
  try simp only[Act.put,zA,zB,zC]
  refine wpAnyH_ready (rs:=[1,5]) (by kernel_rfl) (by simp) ?_
  refine AllReadyH.cons rfl (fun K hK=>?_) (AllReadyH.cons rfl (fun K hK=>?_) AllReadyH.nil)
  ·go_simp
   refine hK.out _ _ x0 (fun hHeld=>?_)
   clear hK K
   try simp only[Act.put,zA,zB,zC]
   refine zR 5 rfl (fun K hK=>?_)
   go_simp
   refine hK.out _ _ x5 (fun hHeld=>?_)
   clear hK K
   try simp only[Act.put,zA,zB,zC]
   refine zR 6 rfl (fun K hK=>?_)
   refine step_catO _ (by rfl) _ _ (by rfl) u4.heap.size j c 1 a (q.take j) [x] wr.heap.size 1 (by rfl) (by rfl) (by exact zu HA) (by omega) (by rfl) (by exact one_at wr x) (by omega) (by have:=zu ZA;omega) ?_
   intro g6 c6 u6 o6 gr6 loc6
   have za:=zu ZA
   have O6:=zh o6
   have k6:=gr6.size
   have T6:=zh ((zu TA).blk (gr6.block (w.heap.size+1) (by omega) (VOI.blk_ne (zu HB) (.inl (by omega)))))
   have x6:u6.cell? ⟨u.heap.size,j,none⟩=some (.int .i64 x):=(World.cell?_of_block (gr6.block u.heap.size (by omega) (VOI.blk_ne (zu HB) (.inl (by omega))))).trans x5
   have d6:=(zu T6).at (i:=1) rfl
   have f6:=(zu T6).free 1
   have G6:=zh (show ∀i,i<u4.heap.size→u6.heap[i]?=wr.heap[i]? from fun i hi=>(gr6.block i (by omega) (VOI.blk_ne (zu HB) (.inl hi))).trans (Below.heap_alloc wr _ _ (by omega)))
   have Y6:=zh (show u6.os=wr.os∧u6.tape=wr.tape∧u6.output=wr.output from⟨gr6.os,gr6.tape,gr6.output⟩)
   clear o6 gr6 loc6
   refine hK.out _ _ x6 (fun hHeld=>?_)
   clear hK K
   refine zT 7 42 (.pointer (some ⟨w.heap.size+1,1,none⟩)) rfl hHeld ?_
   try simp only[Act.put,zA,zB,zC]
   refine zR 8 rfl (fun K hK=>?_)
   go_simp
   refine hK.out _ _ (cell_off x6 (by omega)) (fun hHeld=>?_)
   clear hK K
   try simp only[Act.put,zA,zB,zC]
   refine wpAnyH_done (by kernel_rfl) ?_ _
   obtain⟨t7,g7⟩:=(zu T6).set 1 (.slice (some ⟨g6,0,none⟩) (j+1) c6)
   have T7:=zh (show Tg (u6.setCell ⟨w.heap.size+1,1,none⟩ (.slice (some ⟨g6,0,none⟩) (j+1) c6)) base 26 2 (w.heap.size+1) [.int .i64 k,(.slice (some ⟨g6,0,none⟩) (j+1) c6)] from t7)
   have o6l:=(zu O6).lt
   have O7:=zh (show VOI.Ob (u6.setCell ⟨w.heap.size+1,1,none⟩ (.slice (some ⟨g6,0,none⟩) (j+1) c6)) u4.heap.size (some ⟨g6,0,none⟩) (j+1) c6 (q.take (j+1)) from by
    rw[take_more (zu HX) (zu HJ)]
    exact VOI.Ob.of ((zu O6).kept g7 (by simp;omega)))
   have k7:=g7.size
   have G7:=zh (Gr2.then_ (zu HG) (w2:=(u6.setCell ⟨w.heap.size+1,1,none⟩ (.slice (some ⟨g6,0,none⟩) (j+1) c6))) ⟨g7.os.trans (zu Y6).1,g7.tape.trans (zu Y6).2.1,g7.output.trans (zu Y6).2.2,by omega,fun i hi h1 _=>(g7.block i (by omega) (by simpa using h1)).trans ((zu G6) i hi)⟩)
   clear t7 g7 O6 T6 G6 Y6 x6 d6 f6 x5 x0 d5 d4 pk HX
   go_wp2
   go_roundw
   case rel=>exact⟨j+1,some ⟨g6,0,none⟩,c6,by go_num,by omega,T7,O7,G7,by omega⟩
   case measure=>simp[intOf];omega
  ·go_simp
   refine hK.out _ _ x5 (fun hHeld=>?_)
   clear hK K
   try simp only[Act.put,zA,zB,zC]
   refine zR 1 rfl (fun K hK=>?_)
   go_simp
   refine hK.out _ _ x5 (fun hHeld=>?_)
   clear hK K
   try simp only[Act.put,zA,zB,zC]
   refine zR 6 rfl (fun K hK=>?_)
   refine step_catO _ (by rfl) _ _ (by rfl) u4.heap.size j c 1 a (q.take j) [x] wr.heap.size 1 (by rfl) (by rfl) (by exact zu HA) (by omega) (by rfl) (by exact one_at wr x) (by omega) (by have:=zu ZA;omega) ?_
   intro g6 c6 u6 o6 gr6 loc6
   have za:=zu ZA
   have O6:=zh o6
   have k6:=gr6.size
   have T6:=zh ((zu TA).blk (gr6.block (w.heap.size+1) (by omega) (VOI.blk_ne (zu HB) (.inl (by omega)))))
   have x6:u6.cell? ⟨u.heap.size,j,none⟩=some (.int .i64 x):=(World.cell?_of_block (gr6.block u.heap.size (by omega) (VOI.blk_ne (zu HB) (.inl (by omega))))).trans x5
   have d6:=(zu T6).at (i:=1) rfl
   have f6:=(zu T6).free 1
   have G6:=zh (show ∀i,i<u4.heap.size→u6.heap[i]?=wr.heap[i]? from fun i hi=>(gr6.block i (by omega) (VOI.blk_ne (zu HB) (.inl hi))).trans (Below.heap_alloc wr _ _ (by omega)))
   have Y6:=zh (show u6.os=wr.os∧u6.tape=wr.tape∧u6.output=wr.output from⟨gr6.os,gr6.tape,gr6.output⟩)
   clear o6 gr6 loc6
   refine hK.out _ _ x6 (fun hHeld=>?_)
   clear hK K
   refine zT 7 42 (.pointer (some ⟨w.heap.size+1,1,none⟩)) rfl hHeld ?_
   try simp only[Act.put,zA,zB,zC]
   refine zR 8 rfl (fun K hK=>?_)
   go_simp
   refine hK.out _ _ (cell_off x6 (by omega)) (fun hHeld=>?_)
   clear hK K
   try simp only[Act.put,zA,zB,zC]
   refine wpAnyH_done (by kernel_rfl) ?_ _
   obtain⟨t7,g7⟩:=(zu T6).set 1 (.slice (some ⟨g6,0,none⟩) (j+1) c6)
   have T7:=zh (show Tg (u6.setCell ⟨w.heap.size+1,1,none⟩ (.slice (some ⟨g6,0,none⟩) (j+1) c6)) base 26 2 (w.heap.size+1) [.int .i64 k,(.slice (some ⟨g6,0,none⟩) (j+1) c6)] from t7)
   have o6l:=(zu O6).lt
   have O7:=zh (show VOI.Ob (u6.setCell ⟨w.heap.size+1,1,none⟩ (.slice (some ⟨g6,0,none⟩) (j+1) c6)) u4.heap.size (some ⟨g6,0,none⟩) (j+1) c6 (q.take (j+1)) from by
    rw[take_more (zu HX) (zu HJ)]
    exact VOI.Ob.of ((zu O6).kept g7 (by simp;omega)))
   have k7:=g7.size
   have G7:=zh (Gr2.then_ (zu HG) (w2:=(u6.setCell ⟨w.heap.size+1,1,none⟩ (.slice (some ⟨g6,0,none⟩) (j+1) c6))) ⟨g7.os.trans (zu Y6).1,g7.tape.trans (zu Y6).2.1,g7.output.trans (zu Y6).2.2,by omega,fun i hi h1 _=>(g7.block i (by omega) (by simpa using h1)).trans ((zu G6) i hi)⟩)
   clear t7 g7 O6 T6 G6 Y6 x6 d6 f6 x5 x0 d5 d4 pk HX
   go_wp2
   go_roundw
   case rel=>exact⟨j+1,some ⟨g6,0,none⟩,c6,by go_num,by omega,T7,O7,G7,by omega⟩
   case measure=>simp[intOf];omega
def AnsC(w:World)(base:Nat)(r:Int×List Int×Bool)(e:Ending)(w':World):Prop:=
 (r=(0,[],false)∧e= .returned .nilIface)∨∃g c,r.2.2=true∧e= .returned (.iface 26 (.agg #[.int .i64 r.1,.slice (some ⟨g,0,none⟩) r.2.1.length c]))∧Ints.Own w' base g r.2.1.length c r.2.1
theorem iWholeC(w:World)(gl cl:Nat)(xs:List Int)(h20:xs.length≤1048576)(hc:xs.length≤cl)(hg:gl<w.heap.size)(hr:AtB w gl xs):
  Calls Tryz.prog 21 #[.slice (some ⟨gl,0,none⟩) xs.length cl,.func (.func 22) #[] #[]] w fun e w'=>AnsC w w.heap.size (readC xs) e w'∧Below w.heap.size w w':=by
 have IN:=zh (iReadC (w.alloc (.cells #[.int .i64 0] 3)) gl cl w.heap.size w.heap.size xs h20 hc hg (AtB.below hr (one_more _ _) hg) (pl_box w w.heap.size 0 (Nat.le_refl _) rfl))
 have RR:=zh (readC_one xs)
 clear hr
 have m1:=me_fitsC
 have m2:=en_fitsC
 generalize oneC xs=r at *
 generalize readC xs=rr at *
 go_enter Tryz.func21,Tryz.ntmps21
 go_wp2_with fail
 refine(zu IN).mono ?_
 rintro e u ⟨bb,h⟩
 have B1:=zh ((one_more w (.cells #[.int .i64 0] 3)).trans bb)
 clear bb IN
 rcases h with⟨rfl,rfl⟩|⟨k,q,s,g,c,rfl,rfl,hp,ho,q7⟩
 ·have E:=zh (show rr=(0,[],false) from zu RR)
  go_wp2
  go_ret
  exact⟨.inl ⟨zu E,rfl⟩,zu B1⟩
 ·have pc:=hp.cell
  have RE:=zh (show rr=if s=xs.length∧okB k q=true then(k,q,true) else(0,[],false) from zu RR)
  have O1:=zh ho
  clear hp ho RR
  by_cases hq:s=xs.length
  case neg=>
   have E:=zh (show rr=(0,[],false) from by rw[zu RE,if_neg (fun h=>hq h.1)])
   have qn:(s !=(xs.length:Int))=true:=by simpa using hq
   clear RE hq
   go_wp2
   go_ret
   exact⟨.inl ⟨zu E,rfl⟩,zu B1⟩
  have qn:(s !=(xs.length:Int))=false:=by simp[hq]
  have FR:=zh (fitsC u k g c q (okB k q) (by omega) (zu O1).lt.2 (zu O1).at (okB_says k q))
  have RF:=zh (show rr=if okB k q=true then(k,q,true) else(0,[],false) from by rw[zu RE];simp[hq])
  clear RE hq
  generalize okB k q=ok at *
  cases ok with
  |true=>
   have E:=zh (show rr=(k,q,true) from by rw[zu RF];rfl)
   clear RF
   go_wp2_with fail
   refine(zu FR).mono ?_
   rintro e u1 ⟨rfl,bb⟩
   replace B1:=zh ((zu B1).trans (bb.mono (zu B1).size))
   replace O1:=zh ((zu O1).below bb (zu O1).lt.2)
   clear bb pc
   go_wp2
   go_ret
   have e:=zu E
   subst e
   exact⟨.inr ⟨g,c,rfl,rfl,zu O1⟩,zu B1⟩
  |false=>
   have E:=zh (show rr=(0,[],false) from by rw[zu RF];rfl)
   clear RF
   go_wp2_with fail
   refine(zu FR).mono ?_
   rintro e u1 ⟨rfl,bb⟩
   replace B1:=zh ((zu B1).trans (bb.mono (zu B1).size))
   clear bb pc
   go_wp2
   go_ret
   exact⟨.inl ⟨zu E,rfl⟩,zu B1⟩
theorem as_noC(W:World):(Instr.typeAssert .nilIface 57 26 true).run Tryz.prog W= .ok (.tuple #[.agg #[.int .i64 0,.slice none 0 0],.bool false]) W:=by kernel_rfl
theorem as_yesC(W:World)(v:Value):(Instr.typeAssert (.iface 26 v) 57 26 true).run Tryz.prog W= .ok (.tuple #[v,.bool true]) W:=by kernel_rfl
theorem iCmdRead(w:World)(gl cl:Nat)(xs:List Int)(h20:xs.length≤1048576)(hc:xs.length≤cl)(hg:gl<w.heap.size)(hr:AtB w gl xs):
  Calls Tryz.prog 9 #[.slice (some ⟨gl,0,none⟩) xs.length cl] w fun e w'=>∃a c,e= .returned (.tuple #[.agg #[.int .i64 (readC xs).1,.slice a (readC xs).2.1.length c],.bool (readC xs).2.2])∧VOI.Ob w' w.heap.size a (readC xs).2.1.length c (readC xs).2.1∧Below w.heap.size w w':=by
 have bb:=one_more w (.cells #[.int .i64 0,.slice none 0 0] 26)
 have IN:=zh (iWholeC _ gl cl xs h20 hc (Nat.lt_of_lt_of_le hg bb.size) (AtB.below hr bb hg))
 have B0:=zh bb
 have X0:=zh (B2.made (t:=26) (w:=w) (.int .i64 0) (.slice none 0 0) (Nat.le_refl _) rfl)
 clear hr bb
 generalize readC xs=r at *
 obtain⟨k,q,b⟩:=r
 have as1:=as_noC
 have as2:=as_yesC
 go_enter Tryz.func9,Tryz.ntmps9
 go_wp2_with fail
 refine(zu IN).mono ?_
 rintro e u ⟨h,bb⟩
 have B1:=zh ((zu B0).trans (bb.mono (zu B0).size))
 have X1:=zh ((zu X0).below bb (zu X0).lt.2)
 clear bb X0 B0 IN
 have f1:=(zu X1).free 0
 have f2:=(zu X1).free 1
 have c0:=(zu X1).c0
 have c1:=(zu X1).c1
 have lt:=(zu X1).lt
 rcases h with⟨h,rfl⟩|⟨g,c,h,rfl,ho⟩
 ·obtain⟨rfl,rfl,rfl⟩:k=0∧q=[]∧b=false:=by simpa using h
  have T9:=IRead12.two_end (zu X1) (.int .i64 0) (.slice none 0 0) (.cells #[.int .i64 0,.slice none 0 0] 26)
  have e0:=T9.at (i:=0) rfl
  have e1:=T9.at (i:=1) rfl
  clear T9
  go_wp2
  refine bodyPost_ret (v:= .tuple #[.agg #[.int .i64 0,.slice none 0 0],.bool false]) (by simp[results,Tryz.results9,go_sem,e0,e1]) rfl ⟨none,0,rfl,VOI.Ob.nil _ _,?_⟩
  exact(((zu B1).setCell (p:=⟨w.heap.size,0,none⟩) (by simp) _).setCell (p:=⟨w.heap.size,1,none⟩) (by simp) _).alloc (by have:=(zu B1).size;simpa using this) _
 ·obtain rfl:b=true:=h
  simp only at ho
  have O1:=zh (Ints.Own.mono ho (show w.heap.size≤_ by simp))
  have hl:=ho.lt
  have gn:¬w.heap.size=g:=by have:=hl.1;simp at this;omega
  have T9:=IRead12.two_end (zu X1) (.int .i64 k) (.slice (some ⟨g,0,none⟩) q.length c) (.cells #[.int .i64 k,.slice (some ⟨g,0,none⟩) q.length c] 26)
  have e0:=T9.at (i:=0) rfl
  have e1:=T9.at (i:=1) rfl
  have O2:=zh (SPuts11.own_allocI (row_off (row_off (zu O1) (a:=⟨w.heap.size,0,none⟩) gn (.int .i64 k)) (a:=⟨w.heap.size,1,none⟩) gn (.slice (some ⟨g,0,none⟩) q.length c)) (.cells #[.int .i64 k,.slice (some ⟨g,0,none⟩) q.length c] 26))
  clear T9 ho hl
  go_wp2
  refine bodyPost_ret (v:= .tuple #[.agg #[.int .i64 k,.slice (some ⟨g,0,none⟩) q.length c],.bool true]) (by simp[results,Tryz.results9,go_sem,e0,e1]) rfl ⟨some ⟨g,0,none⟩,c,rfl,VOI.Ob.of (zu O2),?_⟩
  exact(((zu B1).setCell (p:=⟨w.heap.size,0,none⟩) (by simp) _).setCell (p:=⟨w.heap.size,1,none⟩) (by simp) _).alloc (by have:=(zu B1).size;simpa using this) _
end IReadC12
end Go.Proofs.YtcjgepkdpkhljaaGreat
