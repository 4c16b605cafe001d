/- Lemmas. -/
import Derived.Test.YtcjgepkdpkhljaaGreatQG11
import Derived.Test.YtcjgepkdpkhljaaGreatQG15
import Derived.Deep.AppendLies
open Go.ChangeShapes Go.WideShapes Go.ChangeAt Go.RowKit
set_option linter.unusedVariables false
set_option linter.unusedSimpArgs false
set_option maxRecDepth 100000
set_option maxHeartbeats 32000000
namespace Go.Proofs.YtcjgepkdpkhljaaGreat
namespace Cat5
open Tup5 Lots Takes ICut
open LotApp (info2)
theorem AtO.cells{w:World}{g o:Nat}{ps:List T5}(h:AtO w g o ps):∀(j:Nat) (u:Value),(flat5 ps)[j]?=some u→w.cell? ((⟨g,o,none⟩:Addr).add j)=some u:=by
 intro j u hj
 have hl:j<ps.length*5:=by
  have:=(List.getElem?_eq_some_iff.1 hj).1
  rw[flat5_len] at this
  exact this
 rw[Addr.add_lit]
 obtain⟨c0,c1,c2,c3,c4⟩:=h (j/5) (by omega)
 obtain⟨f0,f1,f2,f3,f4⟩:=flat5_get ps (j/5) (by omega)
 rcases(show j%5=0∨j%5=1∨j%5=2∨j%5=3∨j%5=4 by omega) with e|e|e|e|e
 ·rw[show o+j/5*5=o+j by omega] at c0
  rw[show j/5*5=j by omega] at f0
  rw[c0,←hj,f0]
 ·rw[show o+j/5*5+1=o+j by omega] at c1
  rw[show j/5*5+1=j by omega] at f1
  rw[c1,←hj,f1]
 ·rw[show o+j/5*5+2=o+j by omega] at c2
  rw[show j/5*5+2=j by omega] at f2
  rw[c2,←hj,f2]
 ·rw[show o+j/5*5+3=o+j by omega] at c3
  rw[show j/5*5+3=j by omega] at f3
  rw[c3,←hj,f3]
 ·rw[show o+j/5*5+4=o+j by omega] at c4
  rw[show j/5*5+4=j by omega] at f4
  rw[c4,←hj,f4]
theorem wp_cat(u:World){ops:Array Oper}{rest:List Oper}{o:Oper}{a:Act}{Q:Exit→Act→World→Prop}(hgd:o.guard=none)(s x:Operand)
  (ho:o.op= .call {callee:= .builtin .append,args:= #[s,x],argTypes:= #[41,41]})(base g n cap m:Nat)(ps qs:List T5)(vb off c:Nat)
  (hs:a.eval s= .slice (some ⟨g,0,none⟩) n cap)(hx:a.eval x= .slice (some ⟨vb,off,none⟩) m c)(hown:Own5 188 u base g n cap ps)(hl:qs.length=m)(hv:AtO u vb off qs)(hn:n+m≤1048576)(hb:base≤u.heap.size)
  (h:∀g' c' w',Own5 188 w' base g' (n+m) c' (ps++qs)→u.grownBy w' (some g)→(g'=g∨g'=u.heap.size)→wpList Tryz.prog ops Q rest (a.put o.dst (.slice (some ⟨g',0,none⟩) (n+m) c')) w'):wpList Tryz.prog ops Q (o::rest) a u:=by
 obtain⟨i0,hi,hz0,hz1,hz2⟩:=info_parts info2
 refine wpList_append_own_at u hgd s x 41 ho base 188 i0 (.agg #[.int .i64 0,.int .i64 0,.int .i64 0,.int .i64 0,.int .i64 0]) 5 40 Tryz.underlying41 hi hz0 hz1 hz2 rfl (by decide) _ n _ hs hown ⟨vb,off,none⟩ m c (flat5 qs) hx (by rw[flat5_len,hl]) (AtO.cells hv) (fun u hu=>flat5_one u _ hu) (by unfold maxLen;omega) (by omega) hb ?_
 intro v' w' own' gr' nil' loc'
 obtain⟨g',c',rfl,o'⟩:=own5_of_row (n':=n+m) (ps:=ps++qs) own' rfl (by rw[flat5_append]) (by rw[nil'];simp)
 exact h g' c' w' o' gr' (by simpa[Value.ownBlock] using loc')
theorem wp_copyO(u:World){ops:Array Oper}{rest:List Oper}{o:Oper}{a:Act}{Q:Exit→Act→World→Prop}(hgd:o.guard=none)(s x:Operand)
  (ho:o.op= .call {callee:= .builtin .append,args:= #[s,x],argTypes:= #[41,41]})(base g cap m:Nat)(qs:List T5)(vb off c:Nat)
  (hs:a.eval s= .slice (some ⟨g,0,none⟩) 0 cap)(hx:a.eval x= .slice (some ⟨vb,off,none⟩) m c)(hown:Own5 188 u base g 0 cap [])(hl:qs.length=m)(hv:AtO u vb off qs)(hn:m≤1048576)(hb:base≤u.heap.size)
  (h:∀g' c' w',Own5 188 w' base g' m c' qs→u.grownBy w' (some g)→(g'=g∨g'=u.heap.size)→wpList Tryz.prog ops Q rest (a.put o.dst (.slice (some ⟨g',0,none⟩) m c')) w'):wpList Tryz.prog ops Q (o::rest) a u:=by
 refine wp_cat u hgd s x ho base g 0 cap m [] qs vb off c hs hx hown hl hv (by omega) hb ?_
 intro g' c' w' o' gr' loc'
 rw[Nat.zero_add] at o'⊢
 exact h g' c' w' o' gr' loc'
theorem step_cat(u:World){ops:Array Oper}{o:Oper}{a:Act}{K:Act→World→Prop}{Q:Exit→Act→World→Prop}{E:Prop}(hgd:o.guard=none)(s x:Operand)
  (ho:o.op= .call {callee:= .builtin .append,args:= #[s,x],argTypes:= #[41,41]})(base g n cap m:Nat)(ps qs:List T5)(vb off c:Nat)
  (hs:a.eval s= .slice (some ⟨g,0,none⟩) n cap)(hx:a.eval x= .slice (some ⟨vb,off,none⟩) m c)(hown:Own5 188 u base g n cap ps)(hl:qs.length=m)(hv:AtO u vb off qs)(hn:n+m≤1048576)(hb:base≤u.heap.size)
  (h:∀g' c' w',Own5 188 w' base g' (n+m) c' (ps++qs)→u.grownBy w' (some g)→(g'=g∨g'=u.heap.size)→K (a.put o.dst (.slice (some ⟨g',0,none⟩) (n+m) c')) w'):if Region.wanted o (yielded ops a.tmps)=true then Oper.wp Tryz.prog o a u K Q else E:=by
 obtain⟨i0,hi,hz0,hz1,hz2⟩:=info_parts info2
 have hw:Region.wanted o (yielded ops a.tmps)=true:=by simp[Region.wanted,hgd]
 rw[if_pos hw]
 obtain⟨v',w',hr,own',gr',nil',loc'⟩:=run_append_own_at (P:=Tryz.prog) u base 41 o.type 188 i0 (.agg #[.int .i64 0,.int .i64 0,.int .i64 0,.int .i64 0,.int .i64 0]) 5 40 Tryz.underlying41 hi hz0 hz1 hz2 rfl (by decide) (.slice (some ⟨g,0,none⟩) n cap) n (flat5 ps) hown ⟨vb,off,none⟩ m c (flat5 qs) (by rw[flat5_len,hl]) (AtO.cells hv) (fun u hu=>flat5_one u _ hu) (by unfold maxLen;omega) (by omega) hb
 unfold Oper.wp execOp
 simp only[ho,resolve,invoke,builtin,Sem.run_bind,Sem.run_pure,Result.andThen_ok,List.map_toArray,List.map_cons,List.map_nil,hs,hx,hr]
 obtain⟨g',c',rfl,o'⟩:=own5_of_row (n':=n+m) (ps:=ps++qs) own' rfl (by rw[flat5_append]) (by rw[nil'];simp)
 exact h g' c' w' o' gr' (by simpa[Value.ownBlock] using loc')
end Cat5
namespace SOpen
open Tup5 Lots Takes SOk5 SSplit Quieter ICut Cat5
open CmpL (at0)
def openA(ps R:List T5)(ok okl okn:Bool):List T5:=if ok=true∧okl=true then(if okn=true then R else ps) else[]
def openC(ok okl okn:Bool):Int:=if ok=true∧okl=true then(if okn=true then 0 else 3) else 1
theorem open_bad(ps R:List T5){ok okl:Bool}(okn:Bool)(h:ok=false∨okl=false):openA ps R ok okl okn=[]∧openC ok okl okn=1:=by
 unfold openA openC
 have n:¬(ok=true∧okl=true):=by rcases h with h|h<;>simp[h]
 rw[if_neg n,if_neg n]
 exact⟨rfl,rfl⟩
theorem sOpen(w:World)(g n cap:Nat)(ps R:List T5)(x0 x1 x2 x3 x4:Int)(ok okl okn:Bool)(hR:Hid (R=mergeL (n+1) ps [(x0,x1,x2,x3,x4)]))(hl:ps.length=n)(h20:n≤1048576)(hg:g<w.heap.size)(h:At5 w g ps)(hok:Says ok (Right ps))(hkl:Says okl (One (x0,x1,x2,x3,x4)))(hkn:Says okn (Right R)):
  Calls Tryz.prog 100 #[.slice (some ⟨g,0,none⟩) n cap,.agg #[.int .i64 x0,.int .i64 x1,.int .i64 x2,.int .i64 x3,.int .i64 x4]] w fun e w'=>∃g' c',e= .returned (.tuple #[.slice (some ⟨g',0,none⟩) (openA ps R ok okl okn).length c',.int .i64 (openC ok okl okn)])∧Own5 188 w' w.heap.size g' (openA ps R ok okl okn).length c' (openA ps R ok okl okn)∧Below w.heap.size w w':=by
 have RL:R.length=n+1:=by rw[zu hR,merge_len _ _ _ (by simp;omega),hl];rfl
 have B0:=zh (show Below w.heap.size w (w.alloc (.cells #[.int .i64 x0,.int .i64 x1,.int .i64 x2,.int .i64 x3,.int .i64 x4] 188)) from(Below.refl _ _).alloc (Nat.le_refl _) _)
 have A0:=zh (h.below (zu B0) hg)
 have X0:=zh (show Holds5 (w.alloc (.cells #[.int .i64 x0,.int .i64 x1,.int .i64 x2,.int .i64 x3,.int .i64 x4] 188)) w.heap.size 0 (x0,x1,x2,x3,x4) from by unfold Holds5;simp)
 have hs:w.heap.size<(w.alloc (.cells #[.int .i64 x0,.int .i64 x1,.int .i64 x2,.int .i64 x3,.int .i64 x4] 188)).heap.size:=by simp
 have hg0:g<(w.alloc (.cells #[.int .i64 x0,.int .i64 x1,.int .i64 x2,.int .i64 x3,.int .i64 x4] 188)).heap.size:=by simp;omega
 clear h
 go_enter Tryz.func100,Tryz.ntmps100
 go_wp2_with fail
 generalize w.alloc (.cells #[.int .i64 x0,.int .i64 x1,.int .i64 x2,.int .i64 x3,.int .i64 x4] 188)=u at *
 refine(sOk u g n cap ps ok hl h20 hg0 (zu A0) hok).mono ?_
 rintro e w1 ⟨rfl,b1⟩
 have B1:=zh ((zu B0).trans (b1.mono (zu B0).size))
 have A1:=zh ((zu A0).below b1 hg0)
 have X1:=zh ((zu X0).below b1 hs)
 have hs1:=Nat.lt_of_lt_of_le hs b1.size
 have hg1:=Nat.lt_of_lt_of_le hg0 b1.size
 clear b1 B0 A0 X0 hs hg0
 cases ok
 ·have EE:=open_bad ps R (ok:=false) (okl:=okl) okn (.inl rfl)
  have O1:=zh (lit50 188 w1 w.heap.size (zu B1).size)
  have B2:=zh ((zu B1).alloc (zu B1).size (.cells #[] 188))
  go_wp2
  go_ret2
  rw[EE.1,EE.2]
  exact⟨w1.heap.size,0,rfl,zu O1,zu B2⟩
 obtain⟨c0,c1,c2,c3,c4⟩:=at0 (zu X1)
 go_wp2_with fail
 refine(sRight x0 x1 x2 x3 x4 okl _ hkl).mono ?_
 rintro e w2 ⟨rfl,b2⟩
 have B2:=zh ((zu B1).trans (b2.mono (zu B1).size))
 have A2:=zh ((zu A1).below b2 hg1)
 have X2:=zh ((zu X1).below b2 hs1)
 have hs2:=Nat.lt_of_lt_of_le hs1 b2.size
 have hg2:=Nat.lt_of_lt_of_le hg1 b2.size
 clear b2 B1 A1 X1 hs1 hg1 c0 c1 c2 c3 c4
 cases okl
 ·have EE:=open_bad ps R (ok:=true) (okl:=false) okn (.inr rfl)
  have O1:=zh (lit50 188 w2 w.heap.size (zu B2).size)
  have B3:=zh ((zu B2).alloc (zu B2).size (.cells #[] 188))
  go_wp2
  go_ret2
  rw[EE.1,EE.2]
  exact⟨w2.heap.size,0,rfl,zu O1,zu B3⟩
 have n120:=hok.yes.1
 obtain⟨c0,c1,c2,c3,c4⟩:=at0 (zu X2)
 have V3:=zh (lit51 188 w2 w2.heap.size x0 x1 x2 x3 x4 (Nat.le_refl _))
 have A3:=zh ((zu A2).below ((Below.refl w2.heap.size w2).alloc (Nat.le_refl _) (.cells #[.int .i64 x0,.int .i64 x1,.int .i64 x2,.int .i64 x3,.int .i64 x4] 188)) hg2)
 have B3:=zh ((zu B2).alloc (zu B2).size (.cells #[.int .i64 x0,.int .i64 x1,.int .i64 x2,.int .i64 x3,.int .i64 x4] 188))
 have hg3:g<(w2.alloc (.cells #[.int .i64 x0,.int .i64 x1,.int .i64 x2,.int .i64 x3,.int .i64 x4] 188)).heap.size:=by simp;omega
 clear B2 X2
 go_wp2_with fail
 generalize w2.alloc (.cells #[.int .i64 x0,.int .i64 x1,.int .i64 x2,.int .i64 x3,.int .i64 x4] 188)=u3 at *
 obtain⟨vb,VB⟩:∃vb,Hid (vb=w2.heap.size):=⟨_,rfl⟩
 rw[←zu VB] at V3⊢
 refine(sMerge u3 g n cap vb 1 1 ps [(x0,x1,x2,x3,x4)] hl rfl (by omega) (by omega) hg3 (zu V3).lt.2 (zu A3) (zu V3).at).mono ?_
 rw[←zu hR]
 rintro e w4 ⟨g4,c4',rfl,o4,b4⟩
 have O4:=zh (o4.rebase (base':=w.heap.size) (Nat.le_trans (zu B3).size o4.lt.1))
 have B4:=zh ((zu B3).trans (b4.mono (zu B3).size))
 have A4:=zh ((zu A3).below b4 hg3)
 have hg4:=Nat.lt_of_lt_of_le hg3 b4.size
 clear o4 b4 V3 A3 B3 hg3
 go_wp2_with fail
 refine(sOk w4 g4 (n+1) c4' R okn RL (by omega) (zu O4).lt.2 (zu O4).at hkn).mono ?_
 rintro e w5 ⟨rfl,b5⟩
 have O5:=zh ((zu O4).below b5 (zu O4).lt.2)
 have B5:=zh ((zu B4).trans (b5.mono (zu B4).size))
 have A5:=zh ((zu A4).below b5 hg4)
 have hg5:=Nat.lt_of_lt_of_le hg4 b5.size
 clear b5 O4 B4 A4 hg4
 cases okn
 ·have EA:openA ps R true true false=ps:=by simp[openA]
  have EC:openC true true false=3:=by simp[openC]
  have L1:=zh (lit50 188 w5 w.heap.size (zu B5).size)
  have B6:=zh ((zu B5).alloc (zu B5).size (.cells #[] 188))
  have A6:=zh ((zu A5).below ((Below.refl w5.heap.size w5).alloc (Nat.le_refl _) (.cells #[] 188)) hg5)
  have bs:=(zu B6).size
  go_wp2_with (first|(at_builtin;refine wp_copyO _ rfl _ _ rfl w.heap.size w5.heap.size 0 n ps g 0 cap rfl rfl (zu L1) hl (at_o (zu A6)) (by omega) bs ?_)|go_in)
  intro g7 c7 w7 o7 gr7 loc7
  have O7:=zh o7
  have B7:=zh ((zu B6).grown gr7 bs (fun j hj=>by cases hj;exact(zu L1).lt.1))
  clear o7 gr7 loc7
  go_wp2
  go_ret2
  rw[EA,EC,hl]
  exact⟨g7,c7,rfl,zu O7,zu B7⟩
 ·have EA:openA ps R true true true=R:=by simp[openA]
  have EC:openC true true true=0:=by simp[openC]
  go_wp2
  go_ret2
  rw[EA,EC,RL]
  exact⟨g4,c4',rfl,zu O5,zu B5⟩
end SOpen
namespace STake
open Tup5 Lots Takes SOk5 SSplit Quieter ICut Cat5 SMean
open CmpL (at0)
def takeA(ps R:List T5)(bad short:Bool):List T5:=if bad=true then[] else if short=true then ps else R
def takeK(c:Int)(bad short:Bool):Int:=if bad=true then 0 else if short=true then 0 else c
def takeD(bad short:Bool):Int:=if bad=true then 1 else if short=true then 2 else 0
def TakeOk(ps:List T5)(q way:Int):Prop:=Right ps∧(1≤q∧q≤1000000000000000)∧(1≤way∧way≤3)
theorem own_cap{w:World}{base:Nat}{e:TypeId}{g n cap:Nat}{ps:List T5}(h:Own5 e w base g n cap ps):n≤cap∧cap≤maxLen:=by
 rcases h.2 with⟨h1,_⟩|⟨g',c,cur,h1,hb,hg,hnc,hcm,hcs,htake⟩
 ·simp at h1
 ·obtain⟨rfl,rfl⟩:g=g'∧cap=c:=by simpa using h1
  exact⟨hnc,hcm⟩
theorem not_of{b:Bool}{p:Prop}(h:Says b (¬p))(r:¬p):b=true:=h.of r
theorem sTake(w:World)(g n cap:Nat)(ps R:List T5)(a i q way:Int)(bad short:Bool)(hl:ps.length=n)(h20:n≤1048576)(hg:g<w.heap.size)(h:At5 w g ps)(hbad:Says bad (¬TakeOk ps q way))(hshort:Says short (sumQ (ownL ps a i)<q))(hR:bad=false→short=false→R=mergeL ((restL ps a i).length+(takeL way (ownL ps a i) q).length) (restL ps a i) (takeL way (ownL ps a i) q)):
  Calls Tryz.prog 101 #[.slice (some ⟨g,0,none⟩) n cap,.int .i64 a,.int .i64 i,.int .i64 q,.int .i64 way] w fun e w'=>∃g' c',e= .returned (.tuple #[.slice (some ⟨g',0,none⟩) (takeA ps R bad short).length c',.int .i64 (takeK (takeC way (ownL ps a i) q) bad short),.int .i64 (takeD bad short)])∧Own5 188 w' w.heap.size g' (takeA ps R bad short).length c' (takeA ps R bad short)∧Below w.heap.size w w':=by
 obtain⟨ok,OK⟩:=says_of (Right ps)
 obtain⟨b2,B2⟩:=says_of (1≤q∧q≤1000000000000000)
 obtain⟨b3,B3⟩:=says_of (1≤way∧way≤3)
 have H:=zh h
 have HR:=zh hR
 clear h hR
 go_enter Tryz.func101,Tryz.ntmps101
 go_wp2_with fail
 refine(sOk w g n cap ps ok hl h20 hg (zu H) OK).mono ?_
 rintro e w1 ⟨rfl,b1⟩
 have H1:=zh ((zu H).below b1 hg)
 have HB:=zh b1
 have hg1:=Nat.lt_of_lt_of_le hg b1.size
 have NOLIT:=zh (lit50 188 w1 w.heap.size b1.size)
 have NB:=zh ((zu HB).alloc b1.size (.cells #[] 188))
 clear b1 H
 cases ok
 ·obtain rfl:bad=true:=not_of hbad (fun r=>OK.no r.1)
  go_wp2
  go_ret3
  exact⟨w1.heap.size,0,rfl,zu NOLIT,zu NB⟩
 go_wp2_with fail
 refine(sSome q 1 b2 _ B2).mono ?_
 rintro e w2 ⟨rfl,rfl⟩
 cases b2
 ·obtain rfl:bad=true:=not_of hbad (fun r=>B2.no r.2.1)
  go_wp2
  go_ret3
  exact⟨w2.heap.size,0,rfl,zu NOLIT,zu NB⟩
 go_wp2_with fail
 refine(sIn way 1 3 b3 _ B3).mono ?_
 rintro e w3 ⟨rfl,rfl⟩
 cases b3
 ·obtain rfl:bad=true:=not_of hbad (fun r=>B3.no r.2.2)
  go_wp2
  go_ret3
  exact⟨w3.heap.size,0,rfl,zu NOLIT,zu NB⟩
 obtain rfl:bad=false:=hbad.not (fun r=>r ⟨OK.yes,B2.yes,B3.yes⟩)
 obtain⟨q1,qM⟩:=B2.yes
 obtain⟨y1,y3⟩:=B3.yes
 have n120:=OK.yes.1
 have OP:=zh (own_pos OK.yes a i)
 have KEY:=zh (show ∀p∈ownL ps a i,p.1=a∧p.2.1=i from fun p hp=>by simpa using(List.mem_filter.1 hp).2)
 have OLEN:(ownL ps a i).length≤n:=by rw[←hl];exact List.length_filter_le _ _
 have RLEN:(restL ps a i).length≤n:=by rw[←hl];exact List.length_filter_le _ _
 clear NOLIT NB hbad
 go_wp2_with fail
 refine(sSplit w3 g n cap ps a i hl (by omega) hg1 (zu H1)).mono ?_
 rintro e w4 ⟨go,co,gr,cr,rfl,oo,or,ne,b4⟩
 have H4:=zh ((zu H1).below b4 hg1)
 have hg4:=Nat.lt_of_lt_of_le hg1 b4.size
 have OO:=zh (oo.rebase (base':=w.heap.size) (Nat.le_trans (zu HB).size oo.lt.1))
 have OR:=zh (or.rebase (base':=w.heap.size) (Nat.le_trans (zu HB).size or.lt.1))
 have HB4:=zh (next (zu HB) b4)
 clear oo or b4 HB H1 hg1
 obtain⟨own,HO⟩:∃own,Hid (ownL ps a i=own):=⟨_,rfl⟩
 obtain⟨rest,HE⟩:∃rest,Hid (restL ps a i=rest):=⟨_,rfl⟩
 rw[zu HO] at hshort HR OP KEY OLEN OO⊢
 rw[zu HE] at HR RLEN OR⊢
 go_wp2_with fail
 refine(sQty w4 go own.length co own rfl (by omega) (zu OO).at (zu OP).1 (zu OP).2.1).mono ?_
 rintro e w5 ⟨rfl,b5⟩
 have H5:=zh ((zu H4).below b5 hg4)
 have hg5:=Nat.lt_of_lt_of_le hg4 b5.size
 have OO5:=zh ((zu OO).below b5 (zu OO).lt.2)
 have OR5:=zh ((zu OR).below b5 (zu OR).lt.2)
 have HB5:=zh (next (zu HB4) b5)
 clear b5 OO OR HB4 H4 hg4
 cases short
 rotate_left
 ·have lt:=hshort.yes
  have EA:takeA ps R false true=ps:=by simp[takeA]
  have EK:takeK (takeC way own q) false true=0:=by simp[takeK]
  have ED:takeD false true=2:=by simp[takeD]
  have L1:=zh (lit50 188 w5 w.heap.size (zu HB5).size)
  have B6:=zh ((zu HB5).alloc (zu HB5).size (.cells #[] 188))
  have A6:=zh ((zu H5).below ((Below.refl w5.heap.size w5).alloc (Nat.le_refl _) (.cells #[] 188)) hg5)
  have bs:=(zu B6).size
  go_wp2_with (first|(at_builtin;refine wp_copyO _ rfl _ _ rfl w.heap.size w5.heap.size 0 n ps g 0 cap rfl rfl (zu L1) hl (at_o (zu A6)) (by omega) bs ?_)|go_in)
  intro g7 c7 w7 o7 gr7 loc7
  have O7:=zh o7
  have B7:=zh ((zu B6).grown gr7 bs (fun j hj=>by cases hj;exact(zu L1).lt.1))
  clear o7 gr7 loc7
  go_wp2
  go_ret3
  rw[zu HO,EA,EK,ED,hl]
  exact⟨g7,c7,rfl,zu O7,zu B7⟩
 have qs:q≤sumQ own:=Int.not_lt.1 hshort.no
 have EA:takeA ps R false false=R:=by simp[takeA]
 have EK:takeK (takeC way own q) false false=takeC way own q:=by simp[takeK]
 have ED:takeD false false=0:=by simp[takeD]
 have ER:=zh ((zu HR) (by first|rfl|trivial) (by first|rfl|trivial))
 have on0:0<own.length:=by
  cases own with
  |nil=>simp[sumQ] at qs;omega
  |cons x r=>simp
 clear HR hshort H5 hg5
 by_cases w3':way=3
 ·subst w3'
  have nl:¬sumQ own<q:=by omega
  go_wp2_with fail
  refine(sMean w5 go own.length co own q rfl (by omega) on0 (zu OO5).lt.2 (zu OO5).at (zu OP).1 (zu OP).2 q1 qs).mono ?_
  rintro e w6 ⟨gl,cl,rfl,ol,b6⟩
  have TL:takeL 3 own q=meanL own q:=by simp[takeL]
  have TC:takeC 3 own q=meanC own q:=by simp[takeC]
  have LL:(meanL own q).length≤1:=by unfold meanL;split<;>simp
  have OL:=zh ol
  have OR6:=zh ((zu OR5).below b6 (zu OR5).lt.2)
  have HB6:=zh (next (zu HB5) b6)
  rw[TL] at ER
  clear ol b6 OO5 OR5 HB5
  go_wp2_with fail
  refine(sMerge w6 gr rest.length cr gl (meanL own q).length cl rest (meanL own q) rfl rfl (by omega) (by omega) (zu OR6).lt.2 (zu OL).lt.2 (zu OR6).at (zu OL).at).mono ?_
  rw[←zu ER]
  rintro e w7 ⟨g7,c7,rfl,o7,b7⟩
  have O7:=zh (o7.rebase (base':=w.heap.size) (Nat.le_trans (zu HB6).size o7.lt.1))
  have B7:=zh (next (zu HB6) b7)
  have RL:R.length=rest.length+(meanL own q).length:=by rw[zu ER,merge_len _ _ _ (Nat.le_refl _)]
  clear o7 b7
  go_wp2
  go_ret3
  rw[zu HO,EA,EK,ED,TC,RL]
  exact⟨g7,c7,rfl,zu O7,zu B7⟩
 have w3n:(way==3)=false:=by rw[beq_eq_false_iff_ne];exact w3'
 have TL:takeL way own q=leftW way own q:=by simp[takeL,w3']
 have TC:takeC way own q=costW way own q:=by simp[takeC,w3']
 have nl:¬sumQ own<q:=by omega
 rw[TL] at ER
 obtain⟨LF,hLF⟩:∃LF,Hid (leftF (dirL way own) q=LF):=⟨_,rfl⟩
 obtain⟨CF,hCF⟩:∃CF,Hid (costF (dirL way own) q=CF):=⟨_,rfl⟩
 have CB:=costF_bd (dirL way own) q (by omega) (fun p hp=>(zu OP).1 p (dir_mem.1 hp))
 rw[(dir_sum way own).2,zu hCF] at CB
 have CM:=(zu OP).2.2
 have P0:=zh (zu OP).1
 go_wp2
 go_loopw [3,13,17] (fun qv l cv wr=>∃(cur:List T5) (gO cO:Nat) (x c:Int),qv= .int .i64 x∧l= .slice (some ⟨gO,0,none⟩) cur.length cO∧cv= .int .i64 c∧0≤x∧x≤1000000000000000∧0≤c∧c≤CF∧gO≠gr∧cur.length≤own.length∧Hid (x≤sumQ cur)∧Hid (∀p∈cur,Pos p)∧Hid (leftF (dirL way cur) x=LF)∧Hid (c+costF (dirL way cur) x=CF)∧Hid (Own5 188 wr w.heap.size gO cur.length cO cur)∧Hid (Own5 188 wr w.heap.size gr rest.length cr rest)∧Hid (Below w.heap.size w wr)) (fun qv _ _ _=>(intOf qv).toNat)
 case atStart=>exact⟨own,go,co,q,0,rfl,rfl,rfl,by omega,qM,by omega,CB.1,ne,Nat.le_refl _,zh qs,P0,hLF,zh (by rw[zu hCF];omega),OO5,OR5,HB5⟩
 case round=>
  clear OO5 OR5 HB5 P0
  obtain⟨cur,gO,cO,x,c,rfl,rfl,rfl,x0',xM,c0',cC,gne,cl,XS,PO,EL,ECO,HOw,HRe,HB⟩:=hrel
  by_cases t:0<x
  ·have cn0:0<cur.length:=by
    cases cur with
    |nil=>have:=zu XS;simp[sumQ] at this;omega
    |cons y r=>simp
   obtain⟨r,D1,D2,D3⟩:=dir_at way cur cn0
   obtain⟨m,hm⟩:∃m,m=atI way cur.length:=⟨_,rfl⟩
   rw[←hm] at D1 D2 D3
   have mlt:m<cur.length:=by rw[hm];unfold atI;split<;>omega
   have pp:=(zu PO) _ (getD_mem (ps:=cur) (i:=m) mlt)
   have ST:=take_step (r:=r) pp t
   have SQ:=(dir_sum way cur).1
   rw[D1] at SQ EL ECO
   have HA:=zh ST
   have PR:=zh (show ∀p∈r,Pos p from fun p hp=>(zu PO) p (dir_mem.1 (D1▸List.mem_cons_of_mem _ hp)))
   have HD2:=zh D2
   have HD3:=zh D3
   have HSQ:=zh SQ
   clear D1 D2 D3 ST SQ
   obtain⟨e0,e1,e2,e3,e4⟩:=(zu HOw).at m mlt
   have r3:wr.frozen? ⟨gO,m*5+3,none⟩=false:=(zu HOw).free _
   have r4:wr.frozen? ⟨gO,m*5+4,none⟩=false:=(zu HOw).free _
   have EP:el5 cur m=((el5 cur m).1,(el5 cur m).2.1,(el5 cur m).2.2.1,(el5 cur m).2.2.2.1,(el5 cur m).2.2.2.2):=rfl
   rw[EP] at HA HD3 HSQ EL ECO pp
   have ELM:=EP
   clear EP
   generalize (el5 cur m).1=x0 at *
   generalize (el5 cur m).2.1=x1 at *
   generalize (el5 cur m).2.2.1=x2 at *
   generalize (el5 cur m).2.2.2.1=x3 at *
   generalize (el5 cur m).2.2.2.2=x4 at *
   have pp:(1≤x3∧x3≤1000000000000000)∧0≤x4∧x4≤1000000000000000:=pp
   obtain⟨⟨x31,x32⟩,x41,x42⟩:=pp
   have bs:=(zu HB).size
   have gl:=(zu HOw).lt.2
   have grl:=(zu HRe).lt.2
   obtain⟨pt,hpt⟩:∃pt,Hid (prt x x3=pt):=⟨_,rfl⟩
   have pb:=part_bd (q:=x) (x:=x3) x0' x31
   rw[zu hpt] at pb
   obtain⟨pc,hpc⟩:∃pc,Hid (x4*pt/x3=pc):=⟨_,rfl⟩
   have pcb:=div_le (c:=x4) (t:=pt) (x:=x3) x41 pb.1 pb.2.1 x31
   have MT:=zh (md_tells (a:=x4) (b:=pt) (c:=x3) x41 x42 pb.1 pb.2.1 x31)
   rw[zu hpc] at pcb MT
   have B1:=zh ((zu HB).alloc bs (.cells #[.int .i64 x0,.int .i64 x1,.int .i64 x2,.int .i64 x3,.int .i64 x4] 188))
   have NE:=zh (show(c+pc)+costF r (x-pt)=CF from by
    have h1:=(zu HA).2
    have h2:=zu ECO
    unfold pcost at h1
    simp only[zu hpt,zu hpc] at h1
    omega)
   have cr0:=costF_bd r (x-pt) (by omega) (zu PR)
   have cpc:c+pc≤CF:=by have:=zu NE;omega
   have O1:=zh ((zu HOw).alloc (.cells #[.int .i64 x0,.int .i64 x1,.int .i64 x2,.int .i64 x3,.int .i64 x4] 188))
   have R1:=zh ((zu HRe).alloc (.cells #[.int .i64 x0,.int .i64 x1,.int .i64 x2,.int .i64 x3,.int .i64 x4] 188))
   have X1:=zh (show Holds5 (wr.alloc (.cells #[.int .i64 x0,.int .i64 x1,.int .i64 x2,.int .i64 x3,.int .i64 x4] 188)) wr.heap.size 0 (x0,x1,x2,x3,x4) from by unfold Holds5;simp)
   have yb1:gO≠wr.heap.size:=by omega
   have yl:wr.heap.size<(wr.alloc (.cells #[.int .i64 x0,.int .i64 x1,.int .i64 x2,.int .i64 x3,.int .i64 x4] 188)).heap.size:=by simp
   clear ECO HOw HRe cr0
   by_cases w2:way=2
   ·have hm2:(cur.length:Int) -1=(m:Int):=by rw[hm];unfold atI;rw[if_pos w2];omega
    have w2b:(way==2)=true:=by simpa using w2
    have HM:=zh hm
    have W2:=zh w2
    clear hm w2
    go_wp2_with fail
    refine(sMin x3 x pt _ hpt).mono ?_
    rintro e w6 ⟨rfl,hu6⟩
    rw[←hu6] at O1 R1 X1 B1 yl
    obtain⟨d0,d1,d2,d3,d4⟩:=(zu O1).at m mlt
    rw[ELM] at d0 d1 d2 d3 d4
    obtain⟨z0,z1,z2,z3,z4⟩:=at0 (zu X1)
    have r3:w6.frozen? ⟨gO,m*5+3,none⟩=false:=(zu O1).free _
    have r4:w6.frozen? ⟨gO,m*5+4,none⟩=false:=(zu O1).free _
    clear hu6 e0 e1 e2 e3 e4
    generalize wr.heap.size=yb at *
    go_wp2_with fail
    refine(MulC.sMD x4 pt x3 pc (x4*pt%x3) true _ x41 x42 pb.1 (by omega) x31 x32 MT).mono ?_
    rintro e w7 ⟨rfl,rfl⟩
    have S3:=(zu O1).set3 m (x3-pt)
    have S4:=S3.1.set4 m (x4-pc)
    have O8:=zh (show Own5 188 ((w7.setCell ⟨gO,m*5+3,none⟩ (.int .i64 (x3-pt))).setCell ⟨gO,m*5+4,none⟩ (.int .i64 (x4-pc))) w.heap.size gO cur.length cO (cur.modify m (fun p:T5=>(p.1,p.2.1,p.2.2.1,x3-pt,x4-pc))) from by rw[←mod_mod];exact S4.1)
    have G8:=zh (grown_trans S3.2 S4.2)
    have R8:=zh ((zu R1).kept (zu G8) (by simp;omega))
    have B8:=zh ((zu B1).grown (zu G8) (zu B1).size (fun j hj=>by cases hj;exact(zu O1).lt.1))
    clear S3 S4
    by_cases full:x3≤x
    ·have ept:pt=x3:=by rw[←zu hpt];unfold prt;split<;>omega
     have epc:pc=x4:=by rw[←zu hpc,ept,Int.mul_ediv_cancel _ (by omega)]
     have hz:(x3-pt==0)=true:=by rw[ept];simp
     have LEF:=zh (left_full (p:=(x0,x1,x2,x3,x4)) (r:=r) t full)
     have LEN:(cur.take m++cur.drop (m+1)).length=cur.length-1:=by simp;omega
     have cOl:=(own_cap (zu O8)).1
     have k1:(0:Int)≤(m:Int)+1:=by omega
     have k2:((m:Int)+1).toNat=m+1:=by omega
     have k3:IntKind.i64.wrap ((m:Int)+1)=(m:Int)+1:=by rw[IntKind.wrap_i64];omega
     have k4:(m:Int)≤(cO:Int):=by omega
     have k5:(m:Int)+1≤(cur.length:Int):=by omega
     have k6:(cur.length:Int)≤(cO:Int):=by omega
     have pt1:1≤pt:=by omega
     have EPT:=zh ept
     have EPC:=zh epc
     clear ept epc
     have LT:=zh (show(cur.modify m (fun p:T5=>(p.1,p.2.1,p.2.2.1,x3-pt,x4-pc))).take m=cur.take m from(mod_take cur m _ mlt).1)
     have LD:=zh (show(cur.modify m (fun p:T5=>(p.1,p.2.1,p.2.2.1,x3-pt,x4-pc))).drop (m+1)=cur.drop (m+1) from(mod_take cur m _ mlt).2)
     have L8:(cur.modify m (fun p:T5=>(p.1,p.2.1,p.2.2.1,x3-pt,x4-pc))).length=cur.length:=by simp
     have AT8:=zh (zu O8).at
     have gl8:=(zu O8).lt.2
     have bs8:=(zu B8).size
     have grl8:=(zu R8).lt.2
     go_wp2_with fail
     generalize ((w7.setCell ⟨gO,m*5+3,none⟩ (.int .i64 (x3-pt))).setCell ⟨gO,m*5+4,none⟩ (.int .i64 (x4-pc)))=u8 at *
     generalize cur.modify m (fun p:T5=>(p.1,p.2.1,p.2.2.1,x3-pt,x4-pc))=cur8 at *
     have mi:(0:Int)≤(m:Int):=by omega
     have k7:(m:Int)≤(cur.length:Int):=by omega
     by_cases ec:cO=m+1
     ·subst ec
      have kk:(m:Int)≤(m:Int)+1:=by omega
      go_region_held3 (fun w'=>True) (trivial)
       (first|(refine step_cat _ (by rfl) _ _ (by rfl) w.heap.size u8.heap.size 0 0 m [] (cur8.take m) gO 0 (m+1) (by rfl) (by rfl) (by exact Own5.drew (lit50 188 u8 w.heap.size bs8)) (by rw[zu LT,List.length_take];omega) (by exact o_take ((zu AT8).below (by repeat(first|exact Below.refl _ _|refine Below.alloc ?_ (by simp;try omega) _|refine Below.drew ?_)) gl8) m) (by omega) (by simp;omega) ?_;intro g1 c1 w9 o9 gr9 loc9)|(refine step_cat _ (by rfl) _ _ (by rfl) w.heap.size g1 (0+m) c1 0 ([]++cur8.take m) (cur8.drop (m+1)) gO 0 0 (by rfl) (by rfl) (by exact o9) (by rw[zu LD,List.length_drop];omega) (by exact o_nil (by rw[zu LD,List.length_drop];omega)) (by omega) (by exact Nat.le_trans (show w.heap.size≤(u8.alloc (.cells #[] 188)).heap.size by simp;omega) gr9.size) ?_;intro g2 c2 w10 o10 gr10 loc10))
      have X9:g1≠gr:=by
       try simp at loc9
       omega
      have O10:=zh (show Own5 188 w10 w.heap.size g2 (cur.take m++cur.drop (m+1)).length c2 (cur.take m++cur.drop (m+1)) from by
       have:=o10
       rw[zu LT,zu LD,List.nil_append] at this
       rw[LEN,show cur.length-1=0+m+0 by omega]
       exact this)
      have L9:=zh (Own5.drew (Own5.alloc (zu R8) (.cells #[] 188)))
      have R10:=zh (((zu L9).kept gr9 (by simp;omega)).kept gr10 (by simp;exact fun e=>X9 e.symm))
      have B9:=zh ((((zu B8).alloc bs8 (.cells #[] 188)).drew).grown gr9 (by simp;omega) (fun j hj=>by cases hj;exact bs8))
      have B10:=zh ((zu B9).grown gr10 (zu B9).size (fun j hj=>by cases hj;try simp at loc9;omega))
      have g2r:g2≠gr:=by
       have:=(zu R10).lt.2
       have e9:=(zu B9).size
       have z9:=gr9.size
       try simp at loc9 loc10 z9
       omega
      have D10:=zh (show dirL way (cur.take m++cur.drop (m+1))=r from zu HD2)
      have PO10:=zh (show ∀p∈cur.take m++cur.drop (m+1),Pos p from fun p hp=>(zu PO) p (cutout_mem hp))
      have XS10:=zh (show x-pt≤sumQ (cur.take m++cur.drop (m+1)) from by
       have h1:=(dir_sum way (cur.take m++cur.drop (m+1))).1
       rw[zu D10] at h1
       have h2:=zu HSQ
       have h3:=zu XS
       have h4:=zu EPT
       simp only[sumQ] at h2
       omega)
      have L10:=zh (show leftF (dirL way (cur.take m++cur.drop (m+1))) (x-pt)=LF from by
       rw[zu D10,zu EPT,←(zu LEF).1]
       exact zu EL)
      have C10:=zh (show(c+pc)+costF (dirL way (cur.take m++cur.drop (m+1))) (x-pt)=CF from by
       rw[zu D10]
       exact zu NE)
      have hR10:=LEN
      clear o9 gr9 loc9 o10 gr10 loc10 R8 L9 B8 B9 HA HD2 HD3 HSQ EL NE PO XS PR LEF AT8 LT LD O8
      go_wp2
      go_roundw
      case rel=>exact⟨cur.take m++cur.drop (m+1),g2,c2,x-pt,c+pc,rfl,by rw[LEN];congr 1;omega,rfl,by omega,by omega,by omega,cpc,g2r,by rw[LEN];omega,XS10,PO10,L10,C10,O10,R10,B10⟩
      case measure=>simp[intOf];omega
     ·have ec2:¬cO=m+1:=ec
      go_region_held3 (fun w'=>True) (trivial)
       (first|(refine step_cat _ (by rfl) _ _ (by rfl) w.heap.size u8.heap.size 0 0 m [] (cur8.take m) gO 0 cO (by rfl) (by rfl) (by exact Own5.drew (lit50 188 u8 w.heap.size bs8)) (by rw[zu LT,List.length_take];omega) (by exact o_take ((zu AT8).below (by repeat(first|exact Below.refl _ _|refine Below.alloc ?_ (by simp;try omega) _|refine Below.drew ?_)) gl8) m) (by omega) (by simp;omega) ?_;intro g1 c1 w9 o9 gr9 loc9)|(refine step_cat _ (by rfl) _ _ (by rfl) w.heap.size g1 (0+m) c1 (cur.length-(m+1)) ([]++cur8.take m) (cur8.drop (m+1)) gO ((m+1)*5) (cO-(m+1)) (by rfl) (by rfl) (by exact o9) (by rw[zu LD,List.length_drop]) (by exact o_drop ((Own5.drew (Own5.alloc (zu O8) (.cells #[] 188))).kept gr9 (by simp;omega)).at (m+1)) (by omega) (by exact Nat.le_trans (show w.heap.size≤(u8.alloc (.cells #[] 188)).heap.size by simp;omega) gr9.size) ?_;intro g2 c2 w10 o10 gr10 loc10))
      have X9:g1≠gr:=by
       try simp at loc9
       omega
      have O10:=zh (show Own5 188 w10 w.heap.size g2 (cur.take m++cur.drop (m+1)).length c2 (cur.take m++cur.drop (m+1)) from by
       have:=o10
       rw[zu LT,zu LD,List.nil_append] at this
       rw[LEN,show cur.length-1=0+m+(cur.length-(m+1)) by omega]
       exact this)
      have L9:=zh (Own5.drew (Own5.alloc (zu R8) (.cells #[] 188)))
      have R10:=zh (((zu L9).kept gr9 (by simp;omega)).kept gr10 (by simp;exact fun e=>X9 e.symm))
      have B9:=zh ((((zu B8).alloc bs8 (.cells #[] 188)).drew).grown gr9 (by simp;omega) (fun j hj=>by cases hj;exact bs8))
      have B10:=zh ((zu B9).grown gr10 (zu B9).size (fun j hj=>by cases hj;try simp at loc9;omega))
      have g2r:g2≠gr:=by
       have:=(zu R10).lt.2
       have e9:=(zu B9).size
       have z9:=gr9.size
       try simp at loc9 loc10 z9
       omega
      have D10:=zh (show dirL way (cur.take m++cur.drop (m+1))=r from zu HD2)
      have PO10:=zh (show ∀p∈cur.take m++cur.drop (m+1),Pos p from fun p hp=>(zu PO) p (cutout_mem hp))
      have XS10:=zh (show x-pt≤sumQ (cur.take m++cur.drop (m+1)) from by
       have h1:=(dir_sum way (cur.take m++cur.drop (m+1))).1
       rw[zu D10] at h1
       have h2:=zu HSQ
       have h3:=zu XS
       have h4:=zu EPT
       simp only[sumQ] at h2
       omega)
      have L10:=zh (show leftF (dirL way (cur.take m++cur.drop (m+1))) (x-pt)=LF from by
       rw[zu D10,zu EPT,←(zu LEF).1]
       exact zu EL)
      have C10:=zh (show(c+pc)+costF (dirL way (cur.take m++cur.drop (m+1))) (x-pt)=CF from by
       rw[zu D10]
       exact zu NE)
      have hR10:=LEN
      clear o9 gr9 loc9 o10 gr10 loc10 R8 L9 B8 B9 HA HD2 HD3 HSQ EL NE PO XS PR LEF AT8 LT LD O8
      go_wp2
      go_roundw
      case rel=>exact⟨cur.take m++cur.drop (m+1),g2,c2,x-pt,c+pc,rfl,by rw[LEN];congr 1;omega,rfl,by omega,by omega,by omega,cpc,g2r,by rw[LEN];omega,XS10,PO10,L10,C10,O10,R10,B10⟩
      case measure=>simp[intOf];omega
    ·have ept:pt=x:=by rw[←zu hpt];unfold prt;split<;>omega
     have hz:(x3-pt==0)=false:=by rw[beq_eq_false_iff_ne];omega
     have LEP:=zh (left_part (p:=(x0,x1,x2,x3,x4)) (r:=r) t (show x<x3 by omega))
     have AF:=zh (show after (x0,x1,x2,x3,x4) x=(x0,x1,x2,x3-pt,x4-pc) from by
      unfold after pcost
      simp only[zu hpt,zu hpc])
     have PO8:=zh (show ∀p∈cur.modify m (fun p:T5=>(p.1,p.2.1,p.2.2.1,x3-pt,x4-pc)),Pos p from fun p hp=>by
      rcases mod_mem mlt hp with h|h
      ·exact(zu PO) p h
      ·rw[h,ELM]
       unfold Pos
       simp only
       omega)
     have sp8:=sum_pos _ (zu PO8)
     have XS8:=zh (show x-pt≤sumQ (cur.modify m (fun p:T5=>(p.1,p.2.1,p.2.2.1,x3-pt,x4-pc))) by omega)
     have D8:=zh (show dirL way (cur.modify m (fun p:T5=>(p.1,p.2.1,p.2.2.1,x3-pt,x4-pc)))=(x0,x1,x2,x3-pt,x4-pc)::r from(zu HD3) _)
     have L8:=zh (show leftF (dirL way (cur.modify m (fun p:T5=>(p.1,p.2.1,p.2.2.1,x3-pt,x4-pc)))) (x-pt)=LF from by
      rw[zu D8,show x-pt=0 by omega,leftF_zero,←zu AF,←(zu LEP).1]
      exact zu EL)
     have C8:=zh (show(c+pc)+costF (dirL way (cur.modify m (fun p:T5=>(p.1,p.2.1,p.2.2.1,x3-pt,x4-pc)))) (x-pt)=CF from by
      have h1:=zu NE
      rw[zu D8,show x-pt=0 by omega,costF_zero]
      rw[show x-pt=0 by omega,costF_zero] at h1
      exact h1)
     have pt1:1≤pt:=by omega
     clear LEP AF sp8 D8 HA HD2 HD3 HSQ EL NE PO XS PR ept
     go_wp2
     go_roundw
     case rel=>exact⟨cur.modify m (fun p:T5=>(p.1,p.2.1,p.2.2.1,x3-pt,x4-pc)),gO,cO,x-pt,c+pc,rfl,by rw[show(cur.modify m (fun p:T5=>(p.1,p.2.1,p.2.2.1,x3-pt,x4-pc))).length=cur.length by simp],rfl,by omega,by omega,by omega,cpc,gne,by simp;omega,XS8,PO8,L8,C8,zh (by rw[show(cur.modify m (fun p:T5=>(p.1,p.2.1,p.2.2.1,x3-pt,x4-pc))).length=cur.length by simp];exact zu O8),R8,B8⟩
     case measure=>simp[intOf];omega
   ·have hm2:m=0:=by rw[hm];unfold atI;rw[if_neg w2]
    have w2b:(way==2)=false:=by rw[beq_eq_false_iff_ne];exact w2
    have HM:=zh hm
    have W2:=zh w2
    clear hm w2
    subst hm2
    go_wp2_with fail
    refine(sMin x3 x pt _ hpt).mono ?_
    rintro e w6 ⟨rfl,hu6⟩
    rw[←hu6] at O1 R1 X1 B1 yl
    obtain⟨d0,d1,d2,d3,d4⟩:=(zu O1).at 0 mlt
    rw[ELM] at d0 d1 d2 d3 d4
    obtain⟨z0,z1,z2,z3,z4⟩:=at0 (zu X1)
    have r3:w6.frozen? ⟨gO,3,none⟩=false:=(zu O1).free _
    have r4:w6.frozen? ⟨gO,4,none⟩=false:=(zu O1).free _
    clear hu6 e0 e1 e2 e3 e4
    generalize wr.heap.size=yb at *
    go_wp2_with fail
    refine(MulC.sMD x4 pt x3 pc (x4*pt%x3) true _ x41 x42 pb.1 (by omega) x31 x32 MT).mono ?_
    rintro e w7 ⟨rfl,rfl⟩
    have S3:=(zu O1).set3 0 (x3-pt)
    have S4:=S3.1.set4 0 (x4-pc)
    have O8:=zh (show Own5 188 ((w7.setCell ⟨gO,3,none⟩ (.int .i64 (x3-pt))).setCell ⟨gO,4,none⟩ (.int .i64 (x4-pc))) w.heap.size gO cur.length cO (cur.modify 0 (fun p:T5=>(p.1,p.2.1,p.2.2.1,x3-pt,x4-pc))) from by rw[←mod_mod];exact S4.1)
    have G8:=zh (grown_trans S3.2 S4.2)
    have R8:=zh ((zu R1).kept (zu G8) (by simp<;>omega))
    have B8:=zh ((zu B1).grown (zu G8) (zu B1).size (fun j hj=>by cases hj;exact(zu O1).lt.1))
    clear S3 S4
    by_cases full:x3≤x
    ·have ept:pt=x3:=by rw[←zu hpt];unfold prt;split<;>omega
     have epc:pc=x4:=by rw[←zu hpc,ept,Int.mul_ediv_cancel _ (by omega)]
     have hz:(x3-pt==0)=true:=by rw[ept];simp
     have LEF:=zh (left_full (p:=(x0,x1,x2,x3,x4)) (r:=r) t full)
     have LEN:(cur.take 0++cur.drop 1).length=cur.length-1:=by simp<;>omega
     have cOl:=(own_cap (zu O8)).1
     have k1:(0:Int)≤(1:Int):=by omega
     have k2:((1:Int)).toNat=1:=by omega
     have k3:IntKind.i64.wrap ((1:Int))=(1:Int):=by rw[IntKind.wrap_i64];omega
     have k4:(0:Int)≤(cO:Int):=by omega
     have k5:(1:Int)≤(cur.length:Int):=by omega
     have k6:(cur.length:Int)≤(cO:Int):=by omega
     have pt1:1≤pt:=by omega
     have EPT:=zh ept
     have EPC:=zh epc
     clear ept epc
     have LT:=zh (show(cur.modify 0 (fun p:T5=>(p.1,p.2.1,p.2.2.1,x3-pt,x4-pc))).take 0=cur.take 0 from(mod_take cur 0 _ mlt).1)
     have LD:=zh (show(cur.modify 0 (fun p:T5=>(p.1,p.2.1,p.2.2.1,x3-pt,x4-pc))).drop 1=cur.drop 1 from(mod_take cur 0 _ mlt).2)
     have L8:(cur.modify 0 (fun p:T5=>(p.1,p.2.1,p.2.2.1,x3-pt,x4-pc))).length=cur.length:=by simp
     have AT8:=zh (zu O8).at
     have gl8:=(zu O8).lt.2
     have bs8:=(zu B8).size
     have grl8:=(zu R8).lt.2
     go_wp2_with fail
     generalize ((w7.setCell ⟨gO,3,none⟩ (.int .i64 (x3-pt))).setCell ⟨gO,4,none⟩ (.int .i64 (x4-pc)))=u8 at *
     generalize cur.modify 0 (fun p:T5=>(p.1,p.2.1,p.2.2.1,x3-pt,x4-pc))=cur8 at *
     have mi:(0:Int)≤(0:Int):=by omega
     have k7:(0:Int)≤(cur.length:Int):=by omega
     by_cases ec:cO=1
     ·subst ec
      have kk:(0:Int)≤(1:Int):=by omega
      go_region_held3 (fun w'=>True) (trivial)
       (first|(refine step_cat _ (by rfl) _ _ (by rfl) w.heap.size u8.heap.size 0 0 0 [] (cur8.take 0) gO 0 1 (by rfl) (by rfl) (by exact Own5.drew (lit50 188 u8 w.heap.size bs8)) (by rw[zu LT,List.length_take];omega) (by exact o_take ((zu AT8).below (by repeat(first|exact Below.refl _ _|refine Below.alloc ?_ (by simp;try omega) _|refine Below.drew ?_)) gl8) 0) (by omega) (by simp<;>omega) ?_;intro g1 c1 w9 o9 gr9 loc9)|(refine step_cat _ (by rfl) _ _ (by rfl) w.heap.size g1 (0+0) c1 0 ([]++cur8.take 0) (cur8.drop 1) gO 0 0 (by rfl) (by rfl) (by exact o9) (by rw[zu LD,List.length_drop];omega) (by exact o_nil (by rw[zu LD,List.length_drop];omega)) (by omega) (by exact Nat.le_trans (show w.heap.size≤(u8.alloc (.cells #[] 188)).heap.size by simp<;>omega) gr9.size) ?_;intro g2 c2 w10 o10 gr10 loc10))
      have X9:g1≠gr:=by
       try simp at loc9
       omega
      have O10:=zh (show Own5 188 w10 w.heap.size g2 (cur.take 0++cur.drop 1).length c2 (cur.take 0++cur.drop 1) from by
       have:=o10
       rw[zu LT,zu LD,List.nil_append] at this
       rw[LEN,show cur.length-1=0+0+0 by omega]
       exact this)
      have L9:=zh (Own5.drew (Own5.alloc (zu R8) (.cells #[] 188)))
      have R10:=zh (((zu L9).kept gr9 (by simp<;>omega)).kept gr10 (by simp;exact fun e=>X9 e.symm))
      have B9:=zh ((((zu B8).alloc bs8 (.cells #[] 188)).drew).grown gr9 (by simp<;>omega) (fun j hj=>by cases hj;exact bs8))
      have B10:=zh ((zu B9).grown gr10 (zu B9).size (fun j hj=>by cases hj;try simp at loc9;omega))
      have g2r:g2≠gr:=by
       have:=(zu R10).lt.2
       have e9:=(zu B9).size
       have z9:=gr9.size
       try simp at loc9 loc10 z9
       omega
      have D10:=zh (show dirL way (cur.take 0++cur.drop 1)=r from zu HD2)
      have PO10:=zh (show ∀p∈cur.take 0++cur.drop 1,Pos p from fun p hp=>(zu PO) p (cutout_mem hp))
      have XS10:=zh (show x-pt≤sumQ (cur.take 0++cur.drop 1) from by
       have h1:=(dir_sum way (cur.take 0++cur.drop 1)).1
       rw[zu D10] at h1
       have h2:=zu HSQ
       have h3:=zu XS
       have h4:=zu EPT
       simp only[sumQ] at h2
       omega)
      have L10:=zh (show leftF (dirL way (cur.take 0++cur.drop 1)) (x-pt)=LF from by
       rw[zu D10,zu EPT,←(zu LEF).1]
       exact zu EL)
      have C10:=zh (show(c+pc)+costF (dirL way (cur.take 0++cur.drop 1)) (x-pt)=CF from by
       rw[zu D10]
       exact zu NE)
      have hR10:=LEN
      clear o9 gr9 loc9 o10 gr10 loc10 R8 L9 B8 B9 HA HD2 HD3 HSQ EL NE PO XS PR LEF AT8 LT LD O8
      go_wp2
      go_roundw
      case rel=>exact⟨cur.take 0++cur.drop 1,g2,c2,x-pt,c+pc,rfl,by rw[LEN];first|done|rfl|(congr 1;omega)|(congr 1<;>omega),rfl,by omega,by omega,by omega,cpc,g2r,by rw[LEN];omega,XS10,PO10,L10,C10,O10,R10,B10⟩
      case measure=>simp[intOf];omega
     ·have ec2:¬cO=1:=ec
      go_region_held3 (fun w'=>True) (trivial)
       (first|(refine step_cat _ (by rfl) _ _ (by rfl) w.heap.size u8.heap.size 0 0 0 [] (cur8.take 0) gO 0 cO (by rfl) (by rfl) (by exact Own5.drew (lit50 188 u8 w.heap.size bs8)) (by rw[zu LT,List.length_take];omega) (by exact o_take ((zu AT8).below (by repeat(first|exact Below.refl _ _|refine Below.alloc ?_ (by simp;try omega) _|refine Below.drew ?_)) gl8) 0) (by omega) (by simp<;>omega) ?_;intro g1 c1 w9 o9 gr9 loc9)|(refine step_cat _ (by rfl) _ _ (by rfl) w.heap.size g1 (0+0) c1 (cur.length-1) ([]++cur8.take 0) (cur8.drop 1) gO 5 (cO-1) (by rfl) (by rfl) (by exact o9) (by rw[zu LD,List.length_drop]) (by exact o_drop ((Own5.drew (Own5.alloc (zu O8) (.cells #[] 188))).kept gr9 (by simp<;>omega)).at 1) (by omega) (by exact Nat.le_trans (show w.heap.size≤(u8.alloc (.cells #[] 188)).heap.size by simp<;>omega) gr9.size) ?_;intro g2 c2 w10 o10 gr10 loc10))
      have X9:g1≠gr:=by
       try simp at loc9
       omega
      have O10:=zh (show Own5 188 w10 w.heap.size g2 (cur.take 0++cur.drop 1).length c2 (cur.take 0++cur.drop 1) from by
       have:=o10
       rw[zu LT,zu LD,List.nil_append] at this
       rw[LEN,show cur.length-1=0+0+(cur.length-1) by omega]
       exact this)
      have L9:=zh (Own5.drew (Own5.alloc (zu R8) (.cells #[] 188)))
      have R10:=zh (((zu L9).kept gr9 (by simp<;>omega)).kept gr10 (by simp;exact fun e=>X9 e.symm))
      have B9:=zh ((((zu B8).alloc bs8 (.cells #[] 188)).drew).grown gr9 (by simp<;>omega) (fun j hj=>by cases hj;exact bs8))
      have B10:=zh ((zu B9).grown gr10 (zu B9).size (fun j hj=>by cases hj;try simp at loc9;omega))
      have g2r:g2≠gr:=by
       have:=(zu R10).lt.2
       have e9:=(zu B9).size
       have z9:=gr9.size
       try simp at loc9 loc10 z9
       omega
      have D10:=zh (show dirL way (cur.take 0++cur.drop 1)=r from zu HD2)
      have PO10:=zh (show ∀p∈cur.take 0++cur.drop 1,Pos p from fun p hp=>(zu PO) p (cutout_mem hp))
      have XS10:=zh (show x-pt≤sumQ (cur.take 0++cur.drop 1) from by
       have h1:=(dir_sum way (cur.take 0++cur.drop 1)).1
       rw[zu D10] at h1
       have h2:=zu HSQ
       have h3:=zu XS
       have h4:=zu EPT
       simp only[sumQ] at h2
       omega)
      have L10:=zh (show leftF (dirL way (cur.take 0++cur.drop 1)) (x-pt)=LF from by
       rw[zu D10,zu EPT,←(zu LEF).1]
       exact zu EL)
      have C10:=zh (show(c+pc)+costF (dirL way (cur.take 0++cur.drop 1)) (x-pt)=CF from by
       rw[zu D10]
       exact zu NE)
      have hR10:=LEN
      clear o9 gr9 loc9 o10 gr10 loc10 R8 L9 B8 B9 HA HD2 HD3 HSQ EL NE PO XS PR LEF AT8 LT LD O8
      go_wp2
      go_roundw
      case rel=>exact⟨cur.take 0++cur.drop 1,g2,c2,x-pt,c+pc,rfl,by rw[LEN];first|done|rfl|(congr 1;omega)|(congr 1<;>omega),rfl,by omega,by omega,by omega,cpc,g2r,by rw[LEN];omega,XS10,PO10,L10,C10,O10,R10,B10⟩
      case measure=>simp[intOf];omega
    ·have ept:pt=x:=by rw[←zu hpt];unfold prt;split<;>omega
     have hz:(x3-pt==0)=false:=by rw[beq_eq_false_iff_ne];omega
     have LEP:=zh (left_part (p:=(x0,x1,x2,x3,x4)) (r:=r) t (show x<x3 by omega))
     have AF:=zh (show after (x0,x1,x2,x3,x4) x=(x0,x1,x2,x3-pt,x4-pc) from by
      unfold after pcost
      simp only[zu hpt,zu hpc])
     have PO8:=zh (show ∀p∈cur.modify 0 (fun p:T5=>(p.1,p.2.1,p.2.2.1,x3-pt,x4-pc)),Pos p from fun p hp=>by
      rcases mod_mem mlt hp with h|h
      ·exact(zu PO) p h
      ·rw[h,ELM]
       unfold Pos
       simp only
       omega)
     have sp8:=sum_pos _ (zu PO8)
     have XS8:=zh (show x-pt≤sumQ (cur.modify 0 (fun p:T5=>(p.1,p.2.1,p.2.2.1,x3-pt,x4-pc))) by omega)
     have D8:=zh (show dirL way (cur.modify 0 (fun p:T5=>(p.1,p.2.1,p.2.2.1,x3-pt,x4-pc)))=(x0,x1,x2,x3-pt,x4-pc)::r from(zu HD3) _)
     have L8:=zh (show leftF (dirL way (cur.modify 0 (fun p:T5=>(p.1,p.2.1,p.2.2.1,x3-pt,x4-pc)))) (x-pt)=LF from by
      rw[zu D8,show x-pt=0 by omega,leftF_zero,←zu AF,←(zu LEP).1]
      exact zu EL)
     have C8:=zh (show(c+pc)+costF (dirL way (cur.modify 0 (fun p:T5=>(p.1,p.2.1,p.2.2.1,x3-pt,x4-pc)))) (x-pt)=CF from by
      have h1:=zu NE
      rw[zu D8,show x-pt=0 by omega,costF_zero]
      rw[show x-pt=0 by omega,costF_zero] at h1
      exact h1)
     have pt1:1≤pt:=by omega
     clear LEP AF sp8 D8 HA HD2 HD3 HSQ EL NE PO XS PR ept
     go_wp2
     go_roundw
     case rel=>exact⟨cur.modify 0 (fun p:T5=>(p.1,p.2.1,p.2.2.1,x3-pt,x4-pc)),gO,cO,x-pt,c+pc,rfl,by rw[show(cur.modify 0 (fun p:T5=>(p.1,p.2.1,p.2.2.1,x3-pt,x4-pc))).length=cur.length by simp],rfl,by omega,by omega,by omega,cpc,gne,by simp<;>omega,XS8,PO8,L8,C8,zh (by rw[show(cur.modify 0 (fun p:T5=>(p.1,p.2.1,p.2.2.1,x3-pt,x4-pc))).length=cur.length by simp];exact zu O8),R8,B8⟩
     case measure=>simp[intOf];omega
  ·obtain rfl:x=0:=by omega
   have ECUR:=zh (show cur=leftW way own q from by
    have h1:=zu EL
    rw[leftF_zero] at h1
    unfold leftW
    rw[zu hLF,←h1,dir_dir])
   have ECC:=zh (show c=costW way own q from by
    have h1:=zu ECO
    rw[costF_zero] at h1
    unfold costW
    rw[zu hCF]
    omega)
   rw[←zu ECUR] at ER
   clear EL ECO PO XS
   go_wp2_with fail
   refine(sMerge wr gr rest.length cr gO cur.length cO rest cur rfl rfl (by omega) (by omega) (zu HRe).lt.2 (zu HOw).lt.2 (zu HRe).at (zu HOw).at).mono ?_
   rw[←zu ER]
   rintro e w7 ⟨g7,c7,rfl,o7,b7⟩
   have O7:=zh (o7.rebase (base':=w.heap.size) (Nat.le_trans (zu HB).size o7.lt.1))
   have B7:=zh (next (zu HB) b7)
   have RL:R.length=rest.length+cur.length:=by rw[zu ER,merge_len _ _ _ (Nat.le_refl _)]
   clear o7 b7
   go_wp2
   go_ret3
   rw[zu HO,EA,EK,ED,TC,←zu ECC,RL]
   exact⟨g7,c7,rfl,zu O7,zu B7⟩
end STake
end Go.Proofs.YtcjgepkdpkhljaaGreat
