/- Lemmas. -/
import Derived.Test.YtcjgepkdpkhljaaGreatQG18
import Derived.Test.YtcjgepkdpkhljaaGreatQG24
open Go.ChangeShapes Go.WideShapes Go.ChangeAt Go.RowKit
set_option linter.unusedVariables false
set_option linter.unusedSimpArgs false
set_option maxRecDepth 100000
set_option maxHeartbeats 32000000
namespace Go.Proofs.YtcjgepkdpkhljaaGreat
namespace SScale
open Tup5 Lots Takes SOk5 SSplit Quieter ICut Cat5 Scale
open Parts (STells)
def qtys(own:List T5):List Int:=own.map fun p=>p.2.2.2.1
def ScaleOk(ps:List T5)(q:Int):Prop:=Right ps∧0≤q∧q≤1000000000000000
def scaleA(ps R:List T5)(bad short full:Bool):List T5:=if bad=true then[] else if short=true then ps else if full=true then ps else R
def scaleD(bad short full:Bool):Int:=if bad=true then 1 else if short=true then 2 else if full=true then 3 else 0
theorem rest_all{ps:List T5}{a i:Int}(h:ownL ps a i=[]):restL ps a i=ps:=filter_all (fun p hp=>by
 have:p∉ownL ps a i:=by rw[h];exact List.not_mem_nil
 have n:¬(p.1=a∧p.2.1=i):=fun e=>this (List.mem_filter.2 ⟨hp,decide_eq_true e⟩)
 rw[decide_eq_false n]
 rfl)
theorem qtys_len(own:List T5):(qtys own).length=own.length:=by simp[qtys]
theorem qtys_next{own:List T5}{k:Nat}(h:k<own.length):qtys (own.take (k+1))=qtys (own.take k)++[(el5 own k).2.2.2.1]:=by
 rw[take_next h]
 simp[qtys]
theorem qtys_getD(own:List T5)(k:Nat)(h:k<own.length):(qtys own).getD k 0=(el5 own k).2.2.2.1:=by simp[qtys,el5,List.getD,h]
theorem qtys_sum(own:List T5):∀k,k≤own.length→Weigh.S (qtys own) k=sumQ (own.take k)
 |0,_=>rfl
 |k+1,h=>by
  rw[sumQ_next (by omega),←qtys_sum own k (by omega),←qtys_getD own k (by omega)]
  rfl
theorem good_qtys{own:List T5}(h:∀p∈own,Pos p)(hs:sumQ own≤1000000000000000)(n0:own.length≠0)(n40:own.length≤40):Weigh.Good (qtys own):=by
 have len:=qtys_len own
 refine⟨by omega,fun k hk=>?_,?_⟩
 ·rw[qtys_getD own k (by omega)]
  have:=h _ (getD_mem (ps:=own) (i:=k) (by omega))
  unfold Pos at this
  unfold Weigh.Wt
  omega
 ·rw[len,qtys_sum own _ (Nat.le_refl _),List.take_length]
  refine⟨?_,hs⟩
  cases own with
  |nil=>simp at n0
  |cons p r=>
   have h1:=h p List.mem_cons_self
   have h2:=sum_pos r (fun z hz=>h z (List.mem_cons_of_mem _ hz))
   unfold Pos at h1
   simp only[sumQ]
   omega
theorem shares_len{own:List T5}{q:Int}{ss:List Int}{ok:Bool}(h:STells q (qtys own) ss ok)(g:Weigh.Good (qtys own))(t:Quota.Tot q):ss.length=own.length:=by
 rcases h with⟨_,_,_,L,M,_,_,_,rfl⟩|h
 ·rw[Parts.bump_len,Parts.wholes_len,qtys_len]
 ·exact absurd ⟨g,t⟩ h.1
theorem kept_cost{own:List T5}(h:∀p∈own,Pos p)(ss:List Int):∀k,k≤own.length→∀p∈keptN own ss k,0≤p.2.2.2.2∧p.2.2.2.2≤1000000000000000
 |0,_,p,hp=>absurd hp List.not_mem_nil
 |k+1,hk,p,hp=>by
  unfold keptN at hp
  rcases List.mem_append.1 hp with hp|hp
  ·exact kept_cost h ss k (by omega) p hp
  ·split at hp
   ·exact absurd hp List.not_mem_nil
   ·rw[List.mem_singleton] at hp
    subst hp
    exact(h (el5 own k) (getD_mem (by omega))).2
theorem wp_appI(u:World){ops:Array Oper}{rest:List Oper}{o:Oper}{a:Act}{Q:Exit→Act→World→Prop}(hgd:o.guard=none)(s x:Operand)
  (ho:o.op= .call {callee:= .builtin .append,args:= #[s,x],argTypes:= #[24,24]})(base g n cap:Nat)(xs:List Int)(vb:Nat)(y:Int)
  (hs:a.eval s= .slice (some ⟨g,0,none⟩) n cap)(hx:a.eval x= .slice (some ⟨vb,0,none⟩) 1 1)(hown:Ints.Own u base g n cap xs)(hv:u.cell? ⟨vb,0,none⟩=some (.int .i64 y))(hn:n≤1048576)(hb:base≤u.heap.size)
  (h:∀g' c' w',Ints.Own w' base g' (n+1) c' (xs++[y])→u.grownBy w' (some g)→(g'=g∨g'=u.heap.size)→wpList Tryz.prog ops Q rest (a.put o.dst (.slice (some ⟨g',0,none⟩) (n+1) c')) w'):wpList Tryz.prog ops Q (o::rest) a u:=by
 obtain⟨i0,hi,hz0,hz1,hz2⟩:=info_parts Ints.info3
 refine wpList_append_own_at u hgd s x 24 ho base 3 i0 (.int .i64 0) 1 8 Tryz.underlying24 hi hz0 hz1 hz2 rfl (by decide) _ n _ hs hown ⟨vb,0,none⟩ 1 1 [.int .i64 y] hx rfl (fun j v hj=>by
  cases j with
  |zero=>
   have e:v= .int .i64 y:=by simpa using hj.symm
   rw[e]
   simpa[Addr.add] using hv
  |succ j=>simp at hj) (by simp[Value.oneCell']) (by unfold maxLen;omega) (by omega) hb ?_
 intro v' w' own' gr' nil' loc'
 obtain⟨g',c',rfl,o'⟩:=SOrder.own_of_row' (n':=n+1) (xs:=xs++[y]) own' rfl (by simp) (by rw[nil'];simp)
 exact h g' c' w' o' gr' (by simpa[Value.ownBlock] using loc')
theorem sScale(w:World)(g n cap:Nat)(ps R:List T5)(ss:List Int)(okS:Bool)(a i q:Int)(bad short full:Bool)(hl:ps.length=n)(h20:n≤1048576)(hg:g<w.heap.size)(h:At5 w g ps)(hbad:Says bad (¬ScaleOk ps q))(hshort:Says short ((ownL ps a i).length=0∧0<q))(hfull:Says full (40<(ownL ps a i).length))(hS:Hid (STells q (qtys (ownL ps a i)) ss okS))(hR:Hid (R=mergeL ((restL ps a i).length+(scaleL (ownL ps a i) ss).length) (restL ps a i) (scaleL (ownL ps a i) ss))):
  Calls Tryz.prog 90 #[.slice (some ⟨g,0,none⟩) n cap,.int .i64 a,.int .i64 i,.int .i64 q] w fun e w'=>∃g' c',e= .returned (.tuple #[.slice (some ⟨g',0,none⟩) (scaleA ps R bad short full).length c',.int .i64 (scaleD bad short full)])∧Own5 188 w' w.heap.size g' (scaleA ps R bad short full).length c' (scaleA ps R bad short full)∧Below w.heap.size w w':=by
 obtain⟨ok,OK⟩:=says_of (Right ps)
 obtain⟨b2,B2⟩:=says_of (0≤q∧q≤1000000000000000)
 have H:=zh h
 clear h
 go_enter Tryz.func90,Tryz.ntmps90
 go_wp2_with fail
 refine(sOk w g n cap ps ok hl h20 hg (zu H) OK).mono ?_
 rintro e w1 ⟨rfl,b1⟩
 have H1:=zh ((zu H).below b1 hg)
 have HB:=zh b1
 have hg1:=Nat.lt_of_lt_of_le hg b1.size
 have NOLIT:=zh (lit50 188 w1 w.heap.size b1.size)
 have NB:=zh ((zu HB).alloc b1.size (.cells #[] 188))
 clear b1 H
 cases ok
 ·obtain rfl:bad=true:=hbad.of (fun r=>OK.no r.1)
  go_wp2
  go_ret2
  exact⟨w1.heap.size,0,rfl,zu NOLIT,zu NB⟩
 go_wp2_with fail
 refine(sSome q 0 b2 _ B2).mono ?_
 rintro e w2 ⟨rfl,rfl⟩
 cases b2
 ·obtain rfl:bad=true:=hbad.of (fun r=>B2.no r.2)
  go_wp2
  go_ret2
  exact⟨w2.heap.size,0,rfl,zu NOLIT,zu NB⟩
 obtain rfl:bad=false:=hbad.not (fun r=>r ⟨OK.yes,B2.yes⟩)
 obtain⟨q0,qM⟩:=B2.yes
 have n120:=OK.yes.1
 have OP:=zh (own_pos OK.yes a i)
 have OLEN:(ownL ps a i).length≤n:=by rw[←hl];exact List.length_filter_le _ _
 have RLEN:(restL ps a i).length≤n:=by rw[←hl];exact List.length_filter_le _ _
 have RA:=zh (rest_all (ps:=ps) (a:=a) (i:=i))
 clear NOLIT NB hbad
 go_wp2_with fail
 refine(sSplit w2 g n cap ps a i hl (by omega) hg1 (zu H1)).mono ?_
 rintro e w4 ⟨go,co,gr,cr,rfl,oo,or,ne,b4⟩
 have H4:=zh ((zu H1).below b4 hg1)
 have hg4:=Nat.lt_of_lt_of_le hg1 b4.size
 have OO:=zh (oo.rebase (base':=w.heap.size) (Nat.le_trans (zu HB).size oo.lt.1))
 have OR:=zh (or.rebase (base':=w.heap.size) (Nat.le_trans (zu HB).size or.lt.1))
 have HB4:=zh (next (zu HB) b4)
 clear oo or b4 HB H1 hg1
 obtain⟨own,HO⟩:∃own,Hid (ownL ps a i=own):=⟨_,rfl⟩
 obtain⟨rest,HE⟩:∃rest,Hid (restL ps a i=rest):=⟨_,rfl⟩
 rw[zu HO] at hshort hfull hS hR OP OLEN OO RA⊢
 rw[zu HE] at hR RLEN OR RA⊢
 have L1:=zh (lit50 188 w4 w.heap.size (zu HB4).size)
 have ONE:=(Below.refl w4.heap.size w4).alloc (Nat.le_refl _) (.cells #[] 188)
 have B6:=zh ((zu HB4).alloc (zu HB4).size (.cells #[] 188))
 have A6:=zh ((zu H4).below ONE hg4)
 have O6:=zh ((zu OO).below ONE (zu OO).lt.2)
 have R6:=zh ((zu OR).below ONE (zu OR).lt.2)
 have bs:=(zu B6).size
 have d1:=(zu OO).lt.2
 have d2:=(zu OR).lt.2
 clear ONE OO OR HB4 H4
 go_wp2_with (first|(at_builtin;refine wp_copyO _ rfl _ _ rfl w.heap.size w4.heap.size 0 n ps g 0 cap rfl rfl (zu L1) hl (at_o (zu A6)) (by omega) bs ?_)|go_in)
 intro g7 c7 w7 o7 gr7 loc7
 have S7:=zh o7
 have B7:=zh ((zu B6).grown gr7 bs (fun j hj=>by cases hj;exact(zu L1).lt.1))
 have O7:=zh ((zu O6).kept gr7 (by simp;omega))
 have R7:=zh ((zu R6).kept gr7 (by simp;omega))
 clear o7 gr7 loc7 L1 A6 O6 R6 B6 bs d1 d2 hg4
 by_cases z:own.length=0
 ·obtain rfl:full=false:=hfull.not (by omega)
  by_cases qz:0<q
  ·obtain rfl:short=true:=hshort.of ⟨z,qz⟩
   have zb:((own.length:Int)==0)=true:=by rw[beq_iff_eq];omega
   have qb:decide ((0:Int)<q)=true:=decide_eq_true qz
   have HZ:=zh z
   clear z
   go_wp2
   go_ret2
   rw[show scaleA ps R false true false=ps from rfl,show scaleD false true false=2 from rfl,hl]
   exact⟨g7,c7,rfl,zu S7,zu B7⟩
  ·obtain rfl:short=false:=hshort.not (fun r=>qz r.2)
   have ON:own=[]:=List.eq_nil_of_length_eq_zero z
   have RP:=zh (show R=ps from by
    rw[zu hR,(zu RA) ON,ON]
    exact merge_left _ _ (by simp))
   have zb:((own.length:Int)==0)=true:=by rw[beq_iff_eq];omega
   have HZ:=zh z
   clear z ON
   go_wp2
   go_ret2
   rw[show scaleA ps R false false false=R from rfl,show scaleD false false false=0 from rfl,zu RP,hl]
   exact⟨g7,c7,rfl,zu S7,zu B7⟩
 obtain rfl:short=false:=hshort.not (fun r=>z r.1)
 have zb:((own.length:Int)==0)=false:=by rw[beq_eq_false_iff_ne];omega
 by_cases f40:40<own.length
 ·obtain rfl:full=true:=hfull.of f40
  have fi:(40:Int)<(own.length:Int):=by omega
  go_wp2
  go_ret2
  rw[show scaleA ps R false false true=ps from rfl,show scaleD false false true=3 from rfl,hl]
  exact⟨g7,c7,rfl,zu S7,zu B7⟩
 obtain rfl:full=false:=hfull.not f40
 have fi:¬(40:Int)<(own.length:Int):=by omega
 clear S7 RA
 have W0:=zh (SOrder.lit0 w7 w.heap.size (zu B7).size)
 have ONE:=(Below.refl w7.heap.size w7).alloc (Nat.le_refl _) (.cells #[] 3)
 have B8:=zh ((zu B7).alloc (zu B7).size (.cells #[] 3))
 have O8:=zh ((zu O7).below ONE (zu O7).lt.2)
 have R8:=zh ((zu R7).below ONE (zu R7).lt.2)
 have e1:=(zu O7).lt.2
 have e2:=(zu R7).lt.2
 have own40:own.length≤40:=by omega
 clear ONE O7 R7 B7
 go_wp2
 generalize w7.alloc (.cells #[] 3)=w8 at *
 go_loopw [13,14] (fun l j wr=>∃(gw cw k:Nat),l= .slice (some ⟨gw,0,none⟩) k cw∧j= .int .i64 k∧k≤own.length∧gw≠go∧gw≠gr∧Hid (Ints.Own wr w.heap.size gw k cw (qtys (own.take k)))∧Hid (Own5 188 wr w.heap.size go own.length co own)∧Hid (Own5 188 wr w.heap.size gr rest.length cr rest)∧Hid (Below w.heap.size w wr)) (fun _ j _=>own.length-(intOf j).toNat)
 case atStart=>exact⟨w7.heap.size,0,0,rfl,rfl,by omega,by omega,by omega,W0,O8,R8,B8⟩
 case round=>
  clear W0 O8 R8 B8
  obtain⟨gw,cw,k,rfl,rfl,hk,gwo,gwr,HW,HOw,HRe,HB⟩:=hrel
  have bs:=(zu HB).size
  have d1:=(zu HOw).lt.2
  have d2:=(zu HRe).lt.2
  have d3:=(zu HW).lt
  by_cases t:k<own.length
  ·obtain⟨e0,e1,e2,e3,e4⟩:=(zu HOw).at k t
   have QN:=zh (qtys_next t)
   generalize (el5 own k).2.2.2.1=x3 at *
   have V5:=zh (show(wr.alloc (.cells #[.int .i64 x3] 3)).cell? ⟨wr.heap.size,0,none⟩=some (.int .i64 x3) from by simp)
   have W1:=zh (World.ownsRow.alloc (zu HW) (.cells #[.int .i64 x3] 3))
   have kk:(k:Int)<(own.length:Int):=by omega
   go_wp2_with (first|(at_builtin;refine wp_appI _ rfl _ _ rfl w.heap.size gw k cw (qtys (own.take k)) wr.heap.size x3 rfl rfl (zu W1) (zu V5) (by omega) (by simp;omega) ?_)|go_in)
   intro g9 c9 w9 o9 gr9 loc9
   have W9:=zh (show Ints.Own w9 w.heap.size g9 (k+1) c9 (qtys (own.take (k+1))) from by rw[zu QN];exact o9)
   have O9:=zh (((zu HOw).alloc (.cells #[.int .i64 x3] 3)).kept gr9 (by simp;omega))
   have R9:=zh (((zu HRe).alloc (.cells #[.int .i64 x3] 3)).kept gr9 (by simp;omega))
   have B9:=zh (((zu HB).alloc bs (.cells #[.int .i64 x3] 3)).grown gr9 (by simp;omega) (fun j hj=>by cases hj;exact d3.1))
   have n1:g9≠go:=by
    try simp at loc9
    omega
   have n2:g9≠gr:=by
    try simp at loc9
    omega
   clear o9 gr9 loc9 V5 W1 QN e0 e1 e2 e3 e4
   go_wp2
   go_roundw
   case rel=>exact⟨g9,c9,k+1,rfl,by go_num,by omega,n1,n2,W9,O9,R9,B9⟩
   case measure=>simp[intOf];omega
  ·obtain rfl:k=own.length:=by omega
   rw[List.take_length] at HW
   have GOOD:=good_qtys (zu OP).1 (zu OP).2.1 z own40
   have SL:=shares_len (zu hS) GOOD ⟨q0,qM⟩
   clear GOOD
   go_wp2_with fail
   refine(SShares.sShares wr q gw own.length cw (qtys own) (qtys_len own) (by omega) (zu HW).lt.2 (zu HW).at).mono ?_
   rintro e w5 ⟨ss',ok',gS,cS,st,rfl,oS,b5⟩
   obtain⟨rfl,rfl⟩:=STells.unique (zu hS) st
   have S5:=zh (oS.rebase (base':=w.heap.size) (Nat.le_trans bs oS.lt.1))
   have O5:=zh ((zu HOw).below b5 d1)
   have R5:=zh ((zu HRe).below b5 d2)
   have B5:=zh (next (zu HB) b5)
   have L5:=zh (lit50 188 w5 w.heap.size (zu B5).size)
   have ONE:=(Below.refl w5.heap.size w5).alloc (Nat.le_refl _) (.cells #[] 188)
   have S6:=zh ((zu S5).below ONE (zu S5).lt.2)
   have O6:=zh ((zu O5).below ONE (zu O5).lt.2)
   have R6:=zh ((zu R5).below ONE (zu R5).lt.2)
   have B6:=zh (next (zu B5) ONE)
   have f1:=(zu S5).lt.2
   have f2:=(zu O5).lt.2
   have f3:=(zu R5).lt.2
   have sne:gS≠go∧gS≠gr:=by have:=oS.lt.1;omega
   obtain⟨sn1,sn2⟩:=sne
   have CM:=(zu OP).2.2
   clear st oS b5 ONE HW HOw HRe HB S5 O5 R5 B5
   go_wp2
   generalize w5.alloc (.cells #[] 188)=w6 at *
   generalize hb5:w5.heap.size=b5 at *
   clear hb5
   go_loopw [17,18,19,20] (fun l cv j _ wr=>∃(L:List T5) (c:Int) (gL cL k:Nat),l= .slice (some ⟨gL,0,none⟩) L.length cL∧cv= .int .i64 c∧j= .int .i64 k∧k≤own.length∧L.length≤k∧0≤c∧c≤sumC (own.take k)∧gL≠go∧gL≠gr∧gL≠gS∧Hid (L=keptN own ss k)∧Hid (c=lostN own ss k)∧Hid (Own5 188 wr w.heap.size gL L.length cL L)∧Hid (Ints.Own wr w.heap.size gS ss.length cS ss)∧Hid (Own5 188 wr w.heap.size go own.length co own)∧Hid (Own5 188 wr w.heap.size gr rest.length cr rest)∧Hid (Below w.heap.size w wr)) (fun _ _ j _ _=>own.length-(intOf j).toNat)
   case atStart=>exact⟨[],0,b5,0,0,rfl,rfl,rfl,by omega,by simp,by omega,by simp[sumC],by omega,by omega,by omega,zh rfl,zh rfl,L5,S6,O6,R6,B6⟩
   case round=>
    clear L5 S6 O6 R6 B6 f1 f2 f3 d1 d2 d3 bs
    obtain⟨L,c,gL,cL,k,rfl,rfl,rfl,hk,Lk,c0,c1,n1,n2,n3,HL,HC,HLo,HS,HOw,HRe,HB⟩:=hrel
    have bs:=(zu HB).size
    have d1:=(zu HOw).lt.2
    have d2:=(zu HRe).lt.2
    have d3:=(zu HS).lt.2
    have d4:=(zu HLo).lt
    have ts:=take_sum (zu OP).1 k
    by_cases t:k<own.length
    ·obtain⟨e0,e1,e2,e3,e4⟩:=(zu HOw).at k t
     have es:=(zu HS).at k (by omega)
     have NL:=zh (show keptN own ss (k+1)=L++(if ss.getD k 0=0 then[] else[((el5 own k).1,(el5 own k).2.1,(el5 own k).2.2.1,ss.getD k 0,(el5 own k).2.2.2.2)]) from by rw[zu HL];rfl)
     have NC:=zh (show lostN own ss (k+1)=c+(if ss.getD k 0=0 then(el5 own k).2.2.2.2 else 0) from by rw[zu HC];rfl)
     have SN:=sumC_next t
     have ts1:=take_sum (zu OP).1 (k+1)
     have xp:=(zu OP).1 _ (getD_mem (ps:=own) (i:=k) t)
     unfold Pos at xp
     obtain⟨⟨x31,x32⟩,x41,x42⟩:=xp
     generalize (el5 own k).1=x0 at *
     generalize (el5 own k).2.1=x1 at *
     generalize (el5 own k).2.2.1=x2 at *
     generalize (el5 own k).2.2.2.1=x3 at *
     generalize (el5 own k).2.2.2.2=x4 at *
     generalize ss.getD k 0=s at *
     have kk:(k:Int)<(own.length:Int):=by omega
     have B1:=zh ((zu HB).alloc bs (.cells #[.int .i64 x0,.int .i64 x1,.int .i64 x2,.int .i64 s,.int .i64 x4] 188))
     have L1:=zh ((zu HLo).alloc (.cells #[.int .i64 x0,.int .i64 x1,.int .i64 x2,.int .i64 s,.int .i64 x4] 188))
     have S1:=zh (World.ownsRow.alloc (zu HS) (.cells #[.int .i64 x0,.int .i64 x1,.int .i64 x2,.int .i64 s,.int .i64 x4] 188))
     have O1:=zh ((zu HOw).alloc (.cells #[.int .i64 x0,.int .i64 x1,.int .i64 x2,.int .i64 s,.int .i64 x4] 188))
     have R1:=zh ((zu HRe).alloc (.cells #[.int .i64 x0,.int .i64 x1,.int .i64 x2,.int .i64 s,.int .i64 x4] 188))
     by_cases sz:s=0
     ·subst sz
      have NL:=zh ((zu NL).trans (by rw[if_pos rfl,List.append_nil]))
      have NC:=zh ((zu NC).trans (by rw[if_pos rfl]))
      go_wp2
      go_roundw
      case rel=>exact⟨L,c+x4,gL,cL,k+1,rfl,rfl,by go_num,by omega,by omega,by omega,by omega,n1,n2,n3,zh (zu NL).symm,zh (zu NC).symm,L1,S1,O1,R1,B1⟩
      case measure=>simp[intOf];omega
     ·have sb:(s==0)=false:=by simpa using sz
      have NL:=zh ((zu NL).trans (by rw[if_neg sz]))
      have NC:=zh ((zu NC).trans (by rw[if_neg sz,Int.add_zero]))
      have V5:=zh (show Holds5 ((wr.alloc (.cells #[.int .i64 x0,.int .i64 x1,.int .i64 x2,.int .i64 s,.int .i64 x4] 188)).alloc (.cells #[.int .i64 x0,.int .i64 x1,.int .i64 x2,.int .i64 s,.int .i64 x4] 188)) (wr.heap.size+1) 0 (x0,x1,x2,s,x4) from by unfold Holds5;simp)
      have bs1:=(zu B1).size
      clear sz
      go_wp2_with (first|(at_builtin;refine LotApp.wp_app _ rfl _ _ rfl w.heap.size gL L.length cL L (wr.heap.size+1) x0 x1 x2 s x4 rfl rfl ((zu L1).alloc _) (zu V5) (by omega) (by simp;omega) ?_)|go_in)
      intro g9 c9 w9 o9 gr9 loc9
      have L9:=zh (show Own5 188 w9 w.heap.size g9 (L++[(x0,x1,x2,s,x4)]).length c9 (L++[(x0,x1,x2,s,x4)]) from by rw[show(L++[(x0,x1,x2,s,x4)]).length=L.length+1 by simp];exact o9)
      have S9:=zh (Ints.Own.kept (show Ints.Own ((wr.alloc (.cells #[.int .i64 x0,.int .i64 x1,.int .i64 x2,.int .i64 s,.int .i64 x4] 188)).alloc (.cells #[.int .i64 x0,.int .i64 x1,.int .i64 x2,.int .i64 s,.int .i64 x4] 188)) w.heap.size gS ss.length cS ss from World.ownsRow.alloc (zu S1) (.cells #[.int .i64 x0,.int .i64 x1,.int .i64 x2,.int .i64 s,.int .i64 x4] 188)) gr9 (by simp;omega))
      have O9:=zh (((zu O1).alloc (.cells #[.int .i64 x0,.int .i64 x1,.int .i64 x2,.int .i64 s,.int .i64 x4] 188)).kept gr9 (by simp;omega))
      have R9:=zh (((zu R1).alloc (.cells #[.int .i64 x0,.int .i64 x1,.int .i64 x2,.int .i64 s,.int .i64 x4] 188)).kept gr9 (by simp;omega))
      have B9:=zh (((zu B1).alloc bs1 (.cells #[.int .i64 x0,.int .i64 x1,.int .i64 x2,.int .i64 s,.int .i64 x4] 188)).grown gr9 (by simp;omega) (fun j hj=>by cases hj;exact d4.1))
      have m1:g9≠go:=by
       try simp at loc9
       omega
      have m2:g9≠gr:=by
       try simp at loc9
       omega
      have m3:g9≠gS:=by
       try simp at loc9
       omega
      clear o9 gr9 loc9 V5 L1 S1 O1 R1 B1
      go_wp2
      go_roundw
      case rel=>exact⟨L++[(x0,x1,x2,s,x4)],c,g9,c9,k+1,by rw[show(L++[(x0,x1,x2,s,x4)]).length=L.length+1 by simp],rfl,by go_num,by omega,by simp;omega,by omega,by omega,m1,m2,m3,zh (zu NL).symm,zh (zu NC).symm,L9,S9,O9,R9,B9⟩
      case measure=>simp[intOf];omega
    ·obtain rfl:k=own.length:=by omega
     have EL:=zh (show scaleL own ss=addFirst L c from by unfold scaleL;rw[←zu HL,←zu HC])
     rw[zu EL,add_len] at hR
     have LBD:=lost_bd (zu OP).1 ss own.length (Nat.le_refl _)
     rw[←zu HL,←zu HC,List.take_length] at LBD
     have cM:c≤1000000000000000:=by rw[List.take_length] at c1;omega
     have HL0:=zh (zu HL)
     clear HL HC HS HOw
     have KC:=kept_cost (zu OP).1 ss own.length (Nat.le_refl _)
     rw[←zu HL0] at KC
     cases L with
     |nil=>
      have ER:mergeL (rest.length+0) rest []=R:=(zu hR).symm
      have RL:R.length=rest.length+0:=by rw[←ER,merge_len _ _ _ (by simp)];rfl
      go_wp2_with fail
      refine(sMerge wr gr rest.length cr gL 0 cL rest [] rfl rfl (by omega) (by omega) d2 d4.2 (zu HRe).at (zu HLo).at).mono ?_
      rw[ER]
      rintro e w9 ⟨g9,c9,rfl,o9,b9⟩
      have O9:=zh (o9.rebase (base':=w.heap.size) (Nat.le_trans bs o9.lt.1))
      have B9:=zh (next (zu HB) b9)
      clear o9 b9 KC
      go_wp2
      go_ret2
      rw[show scaleA ps R false false false=R from rfl,show scaleD false false false=0 from rfl,RL]
      exact⟨g9,c9,rfl,zu O9,zu B9⟩
     |cons p r=>
      obtain⟨p0,p1,p2,p3,p4⟩:=p
      have pc:=KC (p0,p1,p2,p3,p4) List.mem_cons_self
      have pc0:0≤p4:=pc.1
      have pc1:p4≤1000000000000000:=pc.2
      have ER:mergeL (rest.length+(r.length+1)) rest ((p0,p1,p2,p3,p4+c)::r)=R:=(zu hR).symm
      have RL:R.length=rest.length+(r.length+1):=by rw[←ER,merge_len _ _ _ (by simp)];simp
      have rl:r.length+1≤40:=by have:=Lk;simp at this;omega
      have HL2:=zh (show Own5 188 wr w.heap.size gL (r.length+1) cL ((p0,p1,p2,p3,p4)::r) from zu HLo)
      obtain⟨e0,e1,e2,e3,e4⟩:=(zu HL2).at 0 (by simp)
      have e4:wr.cell? ⟨gL,4,none⟩=some (.int .i64 p4):=e4
      have r4:wr.frozen? ⟨gL,4,none⟩=false:=(zu HL2).free 4
      have S4:=(zu HL2).set4 0 (p4+c)
      have O8:=zh (show Own5 188 (wr.setCell ⟨gL,4,none⟩ (.int .i64 (p4+c))) w.heap.size gL (r.length+1) cL ((p0,p1,p2,p3,p4+c)::r) from S4.1)
      have R8:=zh (show Own5 188 (wr.setCell ⟨gL,4,none⟩ (.int .i64 (p4+c))) w.heap.size gr rest.length cr rest from(zu HRe).kept S4.2 (by simp;omega))
      have B8:=zh (show Below w.heap.size w (wr.setCell ⟨gL,4,none⟩ (.int .i64 (p4+c))) from(zu HB).grown S4.2 bs (fun j hj=>by cases hj;exact d4.1))
      have LE:((p0,p1,p2,p3,p4)::r).length=r.length+1:=rfl
      rw[LE]
      clear S4 KC pc HLo HRe HL2 e0 e1 e2 e3 LE Lk LBD
      go_wp2_with fail
      generalize wr.setCell ⟨gL,4,none⟩ (.int .i64 (p4+c))=u8 at *
      refine(sMerge u8 gr rest.length cr gL (r.length+1) cL rest ((p0,p1,p2,p3,p4+c)::r) rfl rfl (by omega) (by omega) (zu R8).lt.2 (zu O8).lt.2 (zu R8).at (zu O8).at).mono ?_
      rw[ER]
      rintro e w9 ⟨g9,c9,rfl,o9,b9⟩
      have O9:=zh (o9.rebase (base':=w.heap.size) (Nat.le_trans (zu B8).size o9.lt.1))
      have B9:=zh (next (zu B8) b9)
      clear o9 b9
      go_wp2
      go_ret2
      rw[show scaleA ps R false false false=R from rfl,show scaleD false false false=0 from rfl,RL]
      exact⟨g9,c9,rfl,zu O9,zu B9⟩
end SScale
end Go.Proofs.YtcjgepkdpkhljaaGreat
