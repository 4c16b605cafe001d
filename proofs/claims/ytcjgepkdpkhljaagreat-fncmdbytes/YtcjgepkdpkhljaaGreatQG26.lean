/- Lemmas. -/
import Derived.Test.YtcjgepkdpkhljaaGreatQG22
import Derived.Test.YtcjgepkdpkhljaaGreatQG25
open Go.ChangeShapes Go.WideShapes Go.ChangeAt Go.RowKit
set_option linter.unusedVariables false
set_option linter.unusedSimpArgs false
set_option maxRecDepth 100000
set_option maxHeartbeats 32000000
namespace Go.Proofs.YtcjgepkdpkhljaaGreat
namespace Pay
open Bks Weigh Quota Order Parts SHeld
open Bals (T3 val Amt)
open Lots (NoOk)
def tot:List Int→Int
 |[]=>0
 |x::r=>x+tot r
theorem tot_append:∀xs ys:List Int,tot (xs++ys)=tot xs+tot ys
 |[],ys=>by simp[tot]
 |x::r,ys=>by simp[tot,tot_append r ys];omega
theorem tot_set:∀(xs:List Int) (i:Nat),i<xs.length→tot (xs.set i (xs.getD i 0+1))=tot xs+1
 |[],i,h=>by simp at h
 |x::r,0,h=>by simp[tot];omega
 |x::r,i+1,h=>by
  have:=tot_set r i (by simpa using h)
  simp only[List.set_cons_succ,tot,List.getD_cons_succ]
  omega
theorem tot_bump(qs:List Int)(L:List Nat)(m:Nat)(h:∀j,j<m→L.getD j 0<qs.length):tot (bump qs L m)=tot qs+(m:Int):=by
 induction m with
 |zero=>simp[bump]
 |succ m ih=>
  rw[bump,tot_set _ _ (by rw[bump_len];exact h m (by omega)),ih fun j hj=>h j (by omega)]
  omega
theorem tot_wholes(t:Int)(xs:List Int)(k:Nat):tot (wholes t xs k)=SQ t xs k:=by
 induction k with
 |zero=>simp[wholes,tot,SQ]
 |succ k ih=>rw[wholes_succ,tot_append,ih];simp[tot,SQ]
theorem tot_ge:∀(xs:List Int),(∀p∈xs,0≤p)→0≤tot xs
 |[],_=>by simp[tot]
 |x::r,h=>by
  have a:=h x (by simp)
  have b:=tot_ge r fun p hp=>h p (by simp[hp])
  simp only[tot];omega
theorem tot_one:∀(xs:List Int),(∀p∈xs,0≤p)→∀p∈xs,p≤tot xs
 |[],_,p,hp=>by simp at hp
 |x::r,h,p,hp=>by
  have a:=h x (by simp)
  have b:=tot_ge r fun p hp=>h p (by simp[hp])
  rcases List.mem_cons.1 hp with rfl|hp
  ·simp only[tot];omega
  ·have c:=tot_one r (fun p hp=>h p (by simp[hp])) p hp
   simp only[tot];omega
theorem S_take(xs:List Int):∀k,k≤xs.length→S xs k=tot (xs.take k)
 |0,_=>by simp[S,tot]
 |k+1,h=>by
  rw[S,S_take xs k (by omega),List.take_succ_eq_append_getElem (by omega),tot_append]
  simp[tot,List.getD,show k<xs.length by omega]
theorem S_tot(xs:List Int):S xs xs.length=tot xs:=by rw[S_take xs _ (Nat.le_refl _),List.take_length]
theorem sumH_tot:∀ps:List (Int×Int),sumH ps=tot (ps.map Prod.snd)
 |[]=>rfl
 |p::r=>by simp[sumH,tot,sumH_tot r]
theorem shares_tot{t:Int}{xs ps:List Int}{ok:Bool}(h:STells t xs ps ok)(hok:ok=true):tot ps=t∧ps.length=xs.length∧∀p∈ps,0≤p∧p≤t:=by
 rcases h with⟨h1,h2,h3,L,M,h4,h5,h6,rfl⟩|h
 ·have e:tot (bump (wholes t xs xs.length) L M)=t:=by
   rw[tot_bump _ _ _ (fun j hj=>by rw[wholes_len];exact h4.getD_lt j (by omega)),tot_wholes]
   omega
  have nn:∀p∈bump (wholes t xs xs.length) L M,0≤p:=fun p hp=>by
   obtain⟨j,hj,rfl⟩:=List.mem_iff_getElem.1 hp
   have:=(bump_bd (wholes t xs xs.length) L t h2.1 (wholes_bd t xs h2 h1) M j).1
   simpa[List.getD,hj] using this
  refine⟨e,by rw[bump_len,wholes_len],fun p hp=>⟨nn p hp,?_⟩⟩
  have:=tot_one _ nn p hp
  omega
 ·rw[h.2.1] at hok;cases hok
theorem held_good{b:Bk}{i:Int}{who what:List Int}{all:Int}(h:IsHeld b i who what all true)(ne:who≠[]):Weigh.Good what∧all=tot what∧who.length=what.length∧who.length≤20∧(∀a∈who,NoOk a)∧(∀a∈who,kindOf b.ac a=1∧0<val b.bs a i)∧(∀x∈what,1≤x):=by
 rcases h with⟨⟨hok,hs⟩,rfl,rfl,rfl,_⟩|⟨_,_,_,_,e⟩
 ·have al:b.ac.length≤20:=hok.1.1.1
  have hl:=heldL_len b.bs i b.ac
  have pos:∀ps:List (Int×Int),∀p∈heldL b.bs i ps,0<p.2∧p.2=val b.bs p.1 i∧(p.1,1)∈ps:=by
   intro ps
   induction ps with
   |nil=>intro p hp;simp[heldL] at hp
   |cons q r ih=>
    intro p hp
    unfold heldL at hp
    rcases List.mem_append.1 hp with hp|hp
    ·by_cases c:q.2=1∧0<val b.bs q.1 i
     ·rw[if_pos c] at hp
      have e:p=(q.1,val b.bs q.1 i):=by simpa using hp
      subst e
      refine⟨c.2,rfl,?_⟩
      have:q=(q.1,1):=by rw[←c.1]
      rw[←this];simp
     ·rw[if_neg c] at hp;simp at hp
    ·obtain⟨u,v,z⟩:=ih p hp
     exact⟨u,v,by simp[z]⟩
  have wt:=held_in hok.1.2.2.1 i b.ac
  have ne':heldL b.bs i b.ac≠[]:=fun e=>ne (by rw[e];rfl)
  have l0:0<(heldL b.bs i b.ac).length:=List.length_pos_iff.2 ne'
  have elem:∀p∈heldL b.bs i b.ac,NoOk p.1∧kindOf b.ac p.1=1:=fun p hp=>by
   obtain⟨u,v,z⟩:=pos _ p hp
   obtain⟨j,hj,e⟩:=List.mem_iff_getElem.1 z
   have r:=hok.1.1.2 j hj
   have ee:Chart.el b.ac j=(p.1,1):=by simpa[Chart.el,List.getD,hj] using e
   unfold Chart.RowOk at r
   rw[ee] at r
   exact⟨r.1,kind_of_mem (right_one hok.1.1) (p.1,1) z⟩
  have e1:tot ((heldL b.bs i b.ac).map Prod.snd)=sumH (heldL b.bs i b.ac):=(sumH_tot _).symm
  have p1:∀x∈(heldL b.bs i b.ac).map Prod.snd,1≤x:=fun x hx=>by
   obtain⟨p,hp,rfl⟩:=List.mem_map.1 hx
   have:=(pos _ p hp).1;omega
  refine⟨⟨⟨by simp;omega,by simp;omega⟩,fun j hj=>?_,?_,?_⟩,e1.symm,by simp,by simp;omega,?_,?_,p1⟩
  ·have m:((heldL b.bs i b.ac).map Prod.snd).getD j 0∈(heldL b.bs i b.ac).map Prod.snd:=by
    simp only[List.getD,List.getElem?_eq_getElem hj,Option.getD_some];exact List.getElem_mem hj
   obtain⟨p,hp,e⟩:=List.mem_map.1 m
   rw[←e]
   exact wt p hp
  ·rw[S_tot]
   cases hh:heldL b.bs i b.ac with
   |nil=>exact absurd hh ne'
   |cons p r=>
    rw[hh] at p1
    have a:=p1 p.2 (by simp)
    have c:=tot_ge (r.map Prod.snd) fun x hx=>by have:=p1 x (by simp at hx⊢;exact .inr hx);omega
    simp only[List.map_cons,tot];omega
  ·rw[S_tot,e1];exact hs.2
  ·intro a ha
   obtain⟨p,hp,rfl⟩:=List.mem_map.1 ha
   exact(elem p hp).1
  ·intro a ha
   obtain⟨p,hp,rfl⟩:=List.mem_map.1 ha
   obtain⟨u,v,z⟩:=pos _ p hp
   exact⟨(elem p hp).2,by omega⟩
 ·cases e
def legsW(i:Int)(who ps:List Int):List T3:=List.zipWith (fun a p=>(a,i,p)) who ps
theorem legsW_len{i:Int}{who ps:List Int}(h:ps.length=who.length):(legsW i who ps).length=who.length:=by
 simp[legsW,h]
theorem legsW_sum(i j:Int):∀who ps:List Int,ps.length=who.length→Bals.sumI (legsW i who ps) j=if i=j then tot ps else 0
 |[],[],_=>by simp[legsW,Bals.sumI,tot]
 |a::r,p::s,h=>by
  have:=legsW_sum i j r s (by simpa using h)
  simp only[legsW,List.zipWith_cons_cons,Bals.sumI,tot] at this⊢
  rw[this]
  split<;>omega
 |[],p::s,h=>by simp at h
 |a::r,[],h=>by simp at h
theorem legsW_mem{i:Int}:∀{who ps:List Int} {q:T3},q∈legsW i who ps→q.1∈who∧q.2.1=i∧q.2.2∈ps
 |[],ps,q,h=>by simp[legsW] at h
 |a::r,[],q,h=>by simp[legsW] at h
 |a::r,p::s,q,h=>by
  simp only[legsW,List.zipWith_cons_cons,List.mem_cons] at h
  rcases h with rfl|h
  ·simp
  ·obtain⟨x,y,z⟩:=legsW_mem (who:=r) (ps:=s) h
   exact⟨by simp[x],y,by simp[z]⟩
theorem legsW_next{i:Int}{who ps:List Int}{k:Nat}(h:k<who.length)(hl:ps.length=who.length):legsW i (who.take (k+1)) (ps.take (k+1))=legsW i (who.take k) (ps.take k)++[(who.getD k 0,i,ps.getD k 0)]:=by
 rw[List.take_succ_eq_append_getElem h,List.take_succ_eq_append_getElem (by omega)]
 unfold legsW
 rw[List.zipWith_append (by simp;omega)]
 simp[List.getD,h,show k<ps.length by omega]
def legsP(payer cash t:Int)(who ps:List Int):List T3:=(payer,cash,-t)::legsW cash who ps
theorem legsP_even{payer cash t:Int}{who ps:List Int}(hl:ps.length=who.length)(ht:tot ps=t):Bals.Even (legsP payer cash t who ps):=by
 intro j
 unfold legsP
 rw[Bals.sumI,legsW_sum cash j who ps hl,ht]
 simp only
 split<;>omega
theorem legsP_formed{payer cash t:Int}{who ps:List Int}(h1:NoOk payer)(h2:NoOk cash)(t0:0≤t)(t1:t≤1000000000000000)(hl:ps.length=who.length)(h20:who.length≤20)(hw:∀a∈who,NoOk a)(hp:∀p∈ps,0≤p∧p≤t):Bals.Formed (legsP payer cash t who ps):=by
 refine⟨by have:=legsW_len (i:=cash) hl;simp[legsP];omega,fun k hk=>?_⟩
 have m:Bals.el3 (legsP payer cash t who ps) k∈legsP payer cash t who ps:=Bals.getD_mem hk
 unfold Bals.LegOk
 generalize Bals.el3 (legsP payer cash t who ps) k=q at m
 rcases List.mem_cons.1 m with rfl|m
 ·exact⟨h1,h2,by simp only;omega,by simp only;omega⟩
 ·obtain⟨a,e,p⟩:=legsW_mem m
  have:=hp _ p
  exact⟨hw _ a,by rw[e];exact h2,by omega,by omega⟩
def PayNone(b:Bk)(paper cash payer:Int):Prop:=kindOf b.ac payer=0∨kindOf b.ic paper=0∨kindOf b.ic cash=0
def PayKind(b:Bk)(paper cash payer:Int):Prop:=kindOf b.ac payer≠2∨kindOf b.ic paper≠2∨kindOf b.ic cash≠1
def IsPay(b:Bk)(paper cash payer t:Int)(b':Bk)(n c:Int):Prop:=
 (PayNone b paper cash payer∧b'=b∧n=0∧c=3)∨
 (¬PayNone b paper cash payer∧PayKind b paper cash payer∧b'=b∧n=0∧c=4)∨
 (¬PayNone b paper cash payer∧¬PayKind b paper cash payer∧∃who what all ok,IsHeld b paper who what all ok∧((ok=false∧b'=b∧n=0∧c=8)∨
  (ok=true∧who=[]∧b'=b∧n=0∧c=5)∨
  (ok=true∧who≠[]∧∃ps,STells t what ps true∧∃b1 c1,IsPosted b (legsP payer cash t who ps) b1 c1∧((c1≠0∧b'=b∧n=0∧c=c1)∨(c1=0∧b'=b1∧n=who.length∧c=0)))))
end Pay
namespace Split
open Bks Weigh Quota Order Parts SHeld Pay
open Bals (T3 val Amt)
open Tup5 (T5)
open Lots (NoOk)
open MulC (Tells)
def moreL(ps what:List Int):List Int:=List.zipWith (fun p q=>p-q) ps what
theorem moreL_len{ps what:List Int}(h:ps.length=what.length):(moreL ps what).length=ps.length:=by simp[moreL,h]
theorem moreL_tot:∀ps what:List Int,ps.length=what.length→tot (moreL ps what)=tot ps-tot what
 |[],[],_=>by simp[moreL,tot]
 |p::r,q::s,h=>by
  have:=moreL_tot r s (by simpa using h)
  simp only[moreL,List.zipWith_cons_cons,tot] at this⊢
  omega
 |[],q::s,h=>by simp at h
 |p::r,[],h=>by simp at h
theorem moreL_mem:∀{ps what:List Int} {y:Int},y∈moreL ps what→∃p∈ps,∃q∈what,y=p-q
 |[],what,y,h=>by simp[moreL] at h
 |p::r,[],y,h=>by simp[moreL] at h
 |p::r,q::s,y,h=>by
  simp only[moreL,List.zipWith_cons_cons,List.mem_cons] at h
  rcases h with rfl|h
  ·exact⟨p,by simp,q,by simp,rfl⟩
  ·obtain⟨a,ha,b,hb,e⟩:=moreL_mem (ps:=r) (what:=s) h
   exact⟨a,by simp[ha],b,by simp[hb],e⟩
theorem moreL_getD{ps what:List Int}{k:Nat}(h:k<ps.length)(hl:ps.length=what.length):(moreL ps what).getD k 0=ps.getD k 0-what.getD k 0:=by
 have hz:k<(List.zipWith (fun p q:Int=>p-q) ps what).length:=by simp;omega
 simp[moreL,List.getD,h,show k<what.length by omega,List.getElem?_eq_getElem hz]
def legsS(issuer paper have' all:Int)(who what ps:List Int):List T3:=legsW paper who (moreL ps what)++[(issuer,paper,have'-all)]
theorem legsS_even{issuer paper hv all:Int}{who what ps:List Int}(h1:ps.length=what.length)(h2:who.length=what.length)(hp:tot ps=all)(hw:tot what=hv):Bals.Even (legsS issuer paper hv all who what ps):=by
 intro j
 unfold legsS
 rw[Bals.sumI_append,legsW_sum paper j who _ (by rw[moreL_len h1];omega),moreL_tot _ _ h1,hp,hw]
 simp only[Bals.sumI]
 split<;>omega
theorem legsS_formed{issuer paper hv all:Int}{who what ps:List Int}(h1:NoOk issuer)(h2:NoOk paper)(a0:0≤all)(a1:all≤1000000000000000)(v0:0≤hv)(v1:hv≤1000000000000000)(e1:ps.length=what.length)(e2:who.length=what.length)(h20:who.length≤20)(hw:∀a∈who,NoOk a)(hp:∀p∈ps,0≤p∧p≤all)(hq:∀q∈what,0≤q∧q≤1000000000000000):Bals.Formed (legsS issuer paper hv all who what ps):=by
 refine⟨by have:=legsW_len (i:=paper) (who:=who) (ps:=moreL ps what) (by rw[moreL_len e1];omega);simp[legsS];omega,fun k hk=>?_⟩
 have m:Bals.el3 (legsS issuer paper hv all who what ps) k∈legsS issuer paper hv all who what ps:=Bals.getD_mem hk
 unfold Bals.LegOk
 generalize Bals.el3 (legsS issuer paper hv all who what ps) k=q at m
 rcases List.mem_append.1 m with m|m
 ·obtain⟨a,e,p⟩:=legsW_mem m
  obtain⟨p1,hp1,q1,hq1,e3⟩:=moreL_mem p
  have:=hp _ hp1
  have:=hq _ hq1
  exact⟨hw _ a,by rw[e];exact h2,by omega,by omega⟩
 ·have e:q=(issuer,paper,hv-all):=by simpa using m
  subst e
  exact⟨h1,h2,by simp only;omega,by simp only;omega⟩
def IsSc(ls:List T5)(a i q:Int)(ls':List T5)(d:Int):Prop:=
 ∃(R:List T5) (ss:List Int) (okS bad short full:Bool),Lots.Says bad (¬SScale.ScaleOk ls q)∧Lots.Says short ((Lots.ownL ls a i).length=0∧0<q)∧Lots.Says full (40<(Lots.ownL ls a i).length)∧STells q (SScale.qtys (Lots.ownL ls a i)) ss okS∧R=Lots.mergeL ((Lots.restL ls a i).length+(Scale.scaleL (Lots.ownL ls a i) ss).length) (Lots.restL ls a i) (Scale.scaleL (Lots.ownL ls a i) ss)∧ls'=SScale.scaleA ls R bad short full∧d=SScale.scaleD bad short full
theorem IsSc.of(ls:List T5)(a i q:Int):∃ls' d,IsSc ls a i q ls' d:=by
 obtain⟨ss,o,st⟩:=OrderEx.stells_ex q (SScale.qtys (Lots.ownL ls a i))
 obtain⟨x,hx⟩:=Lots.says_of (¬SScale.ScaleOk ls q)
 obtain⟨y,hy⟩:=Lots.says_of ((Lots.ownL ls a i).length=0∧0<q)
 obtain⟨z,hz⟩:=Lots.says_of (40<(Lots.ownL ls a i).length)
 exact⟨_,_,_,ss,o,x,y,z,hx,hy,hz,st,rfl,rfl,rfl⟩
def ScAll(i:Int):List (Int×Int)→List T5→List T5→Int→Prop
 |[],ls,ls',c=>ls'=ls∧c=0
 |p::r,ls,ls',c=>∃l1 d,IsSc ls p.1 i p.2 l1 d∧((d≠0∧ls'=l1∧c=7)∨(d=0∧ScAll i r l1 ls' c))
theorem ScAll.more{i:Int}:∀{r:List (Int×Int)} {ls l1 l2:List T5} {p:Int×Int} {d:Int},ScAll i r ls l1 0→IsSc l1 p.1 i p.2 l2 d→ScAll i (r++[p]) ls l2 (if d=0 then 0 else 7)
 |[],ls,l1,l2,p,d,h,k=>by
  obtain rfl:l1=ls:=h.1
  refine⟨l2,d,k,?_⟩
  by_cases z:d=0
  ·exact .inr ⟨z,rfl,by rw[if_pos z]⟩
  ·exact .inl ⟨z,rfl,by rw[if_neg z]⟩
 |q::r,ls,l1,l2,p,d,⟨x,e,h,h'⟩,k=>by
  rcases h' with⟨_,_,c⟩|⟨a,h'⟩
  ·exact absurd c (by decide)
  ·exact⟨x,e,h,.inr ⟨a,ScAll.more h' k⟩⟩
theorem ScAll.stop{i:Int}:∀{r s:List (Int×Int)} {ls l1:List T5},ScAll i r ls l1 7→ScAll i (r++s) ls l1 7
 |[],s,ls,l1,⟨_,c⟩=>absurd c (by decide)
 |q::r,s,ls,l1,⟨x,e,h,h'⟩=>by
  rcases h' with h'|⟨a,h'⟩
  ·exact⟨x,e,h,.inl h'⟩
  ·exact⟨x,e,h,.inr ⟨a,ScAll.stop h'⟩⟩
def SplNone(b:Bk)(paper issuer:Int):Prop:=kindOf b.ac issuer=0∨kindOf b.ic paper=0
def SplKind(b:Bk)(paper issuer:Int):Prop:=kindOf b.ac issuer≠2∨kindOf b.ic paper≠2
def IsSplit(b:Bk)(paper n d issuer:Int)(b':Bk)(m c:Int):Prop:=
 (SplNone b paper issuer∧b'=b∧m=0∧c=3)∨
 (¬SplNone b paper issuer∧SplKind b paper issuer∧b'=b∧m=0∧c=4)∨
 (¬SplNone b paper issuer∧¬SplKind b paper issuer∧∃who what hv ok,IsHeld b paper who what hv ok∧((ok=false∧b'=b∧m=0∧c=8)∨
  (ok=true∧who=[]∧b'=b∧m=0∧c=5)∨
  (ok=true∧who≠[]∧∃all r fine,Tells hv n d all r fine∧((fine=false∧b'=b∧m=0∧c=8)∨
   (fine=true∧∃ps,STells all what ps true∧∃b1 c1,IsPosted b (legsS issuer paper hv all who what ps) b1 c1∧((c1≠0∧b'=b∧m=0∧c=c1)∨
    (c1=0∧∃ls c2,ScAll paper (who.zip ps) b1.ls ls c2∧((c2≠0∧b'=b∧m=0∧c=c2)∨(c2=0∧b'={b1 with ls:=ls}∧m=all∧c=0)))))))))
end Split
namespace SSplitB
open BMem Bks ILists BHelp Ans SBk Corp Trd Pay Split
open IBalsFit (one_more)
open Lots (Says says_of NoOk)
open Bals (T3)
open Tup5 (T5 Own5)
open Triples (Own3 At3 Holds3)
open SIssue (to_wb off_box six_alloc box_six_alloc ow_six_alloc eq_true eq_false ne_true ne_false)
open SMove (AnsM)
open SHeld (IsHeld)
open Parts (STells bump wholes)
def ToldS(b:Bk)(pp sn sd py:Int):Prop:=Ok b∧NoOk pp∧(1≤sn∧sn≤1000000)∧(1≤sd∧sd≤1000000)∧NoOk py
theorem own_none(w:World):Own3 181 (w.alloc (.cells #[] 181)) w.heap.size w.heap.size 0 0 []:=
 World.ownsRow_lit w #[] 0 (Nat.le_refl _) (by decide) rfl
def Inv(i:Int)(zs:List (Int×Int))(l0:List T5)(k1:Int)(l:List T5)(cc:Int)(k:Nat):Prop:=
 (k1≠0∧cc=k1)∨(k1=0∧(cc=0∨cc=7)∧ScAll i (zs.take k) l0 l cc)
theorem Inv.start(i:Int)(zs:List (Int×Int))(l0:List T5)(k1:Int):Inv i zs l0 k1 l0 k1 0:=by
 by_cases h:k1=0
 ·exact .inr ⟨h,.inl h,by rw[List.take_zero];exact⟨rfl,h⟩⟩
 ·exact .inl ⟨h,rfl⟩
theorem Inv.zero{i:Int}{zs:List (Int×Int)}{l0 l:List T5}{k1:Int}{k:Nat}(h:Inv i zs l0 k1 l 0 k):k1=0∧ScAll i (zs.take k) l0 l 0:=by
 rcases h with⟨h,e⟩|⟨h,_,s⟩
 ·exact absurd e.symm h
 ·exact⟨h,s⟩
theorem Inv.next{i:Int}{zs:List (Int×Int)}{l0 l l1:List T5}{k1 d:Int}{k:Nat}{p:Int×Int}(hz:k1=0)(h:ScAll i (zs.take k) l0 l 0)(s:IsSc l p.1 i p.2 l1 d)(e:zs.take (k+1)=zs.take k++[p]):Inv i zs l0 k1 l1 (if d=0 then 0 else 7) (k+1):=by
 refine .inr ⟨hz,by split<;>simp,?_⟩
 rw[e]
 exact h.more s
theorem Inv.other{i:Int}{zs:List (Int×Int)}{l0 l:List T5}{k1 cc:Int}{k:Nat}(h:Inv i zs l0 k1 l cc k)(ne:cc≠0):(k1≠0∧cc=k1)∨(k1=0∧ScAll i zs l0 l cc):=by
 rcases h with h|⟨hz,rfl|rfl,s⟩
 ·exact .inl h
 ·exact absurd rfl ne
 ·exact .inr ⟨hz,by have:=s.stop (s:=zs.drop k);rwa [List.take_append_drop] at this⟩
theorem zip_next{xs ys:List Int}{k:Nat}(h:k<xs.length)(h':k<ys.length):(xs.zip ys).take (k+1)=(xs.zip ys).take k++[(xs.getD k 0,ys.getD k 0)]:=by
 rw[List.take_succ_eq_append_getElem (by simp;omega)]
 simp[List.getD,h,h']
theorem scaled_len{ps R:List T5}{a i q:Int}{ss:List Int}{bad short full:Bool}(hbad:Says bad (¬SScale.ScaleOk ps q))(hR:R=Lots.mergeL ((Lots.restL ps a i).length+(Scale.scaleL (Lots.ownL ps a i) ss).length) (Lots.restL ps a i) (Scale.scaleL (Lots.ownL ps a i) ss)):(SScale.scaleA ps R bad short full).length≤241:=by
 unfold SScale.scaleA
 split
 ·simp
 ·rename_i nb
  have ok:SScale.ScaleOk ps q:=Classical.byContradiction fun h=>nb (hbad.2 h)
  have n120:=ok.1.1
  split
  ·omega
  ·split
   ·omega
   ·have h0:=Scale.scale_len (Lots.ownL ps a i) ss
    have h1:(Lots.ownL ps a i).length≤ps.length:=List.length_filter_le _ _
    have h2:(Lots.restL ps a i).length≤ps.length:=List.length_filter_le _ _
    rw[hR,Takes.merge_len _ _ _ (Nat.le_refl _)]
    omega
theorem posted_ls{b b1:Bk}{ls:List T3}{c:Int}(h:IsPosted b ls b1 c):b1.ls=b.ls:=by
 obtain⟨qs,pc,_,⟨_,rfl,_⟩|⟨_,rfl,_⟩|⟨_,rfl,_⟩|⟨_,rfl,_⟩⟩:=h<;>rfl
theorem sSplit(w:World)(x:Bx)(pp sn sd py:Int)(hr:Rd w x):
  Calls Tryz.prog 56 #[.agg #[.slice (some ⟨x.ga,0,none⟩) x.b.ac.length x.ca,.slice (some ⟨x.gi,0,none⟩) x.b.ic.length x.ci,.slice (some ⟨x.gb,0,none⟩) x.b.bs.length x.cb,.slice (some ⟨x.gl,0,none⟩) x.b.ls.length x.cl,.slice (some ⟨x.gt,0,none⟩) x.b.ts.length x.ct,.int .i64 x.b.lot],.int .i64 pp,.int .i64 sn,.int .i64 sd,.int .i64 py] w (AnsM (ToldS x.b pp sn sd py) (IsSplit x.b pp sn sd py) w):=by
 obtain⟨b0,h0⟩:=says_of (Ok x.b)
 obtain⟨b1,h1⟩:=says_of (NoOk pp)
 obtain⟨b2,h2⟩:=says_of (1≤sn∧sn≤1000000)
 obtain⟨b3,h3⟩:=says_of (1≤sd∧sd≤1000000)
 obtain⟨b4,h4⟩:=says_of (NoOk py)
 have H0:=zh h0
 have H1:=zh h1
 have H2:=zh h2
 have H3:=zh h3
 have H4:=zh h4
 have S0:=zh (SR.start hr)
 have HR:=zh hr
 clear h0 h1 h2 h3 h4 hr
 go_enter Tryz.func56,Tryz.ntmps56
 go_wp2_with fail
 refine(SBooksOk.sBooksOk _ x b0 (zu S0).r (zu H0)).mono ?_
 rintro e w1 ⟨rfl,bb⟩
 have S1:=zh ((zu S0).step bb)
 have B1:=zh (zu S1).b
 clear bb
 obtain⟨c0,c1,c2,c3,c4,c5⟩:=(zu S1).c
 obtain⟨r0,r1,r2,r3,r4,r5,f0,f1,f2,f3,f4,f5⟩:=Box.all ((zu S1).v)
 cases b0
 ·have N:=zh (show ¬ToldS x.b pp sn sd py from fun hh=>(zu H0).no hh.1)
  go_wp2
  refine bodyPost_ret (v:= .tuple #[.agg #[.slice none 0 0,.slice none 0 0,.slice none 0 0,.slice none 0 0,.slice none 0 0,.int .i64 0],.int .i64 0,.int .i64 1]) (by simp[results,Tryz.results56,go_sem,r0,r1,r2,r3,r4,r5]) rfl (.inl ⟨zu N,rfl,?_⟩)
  exact six (zu B1) (by omega) _ _ _ _ _ _
 go_wp2_with fail
 refine(SOk5.sNo pp b1 _ (zu H1)).mono ?_
 rintro e v1 ⟨rfl,rfl⟩
 cases b1
 ·have N:=zh (show ¬ToldS x.b pp sn sd py from fun hh=>(zu H1).no hh.2.1)
  go_wp2
  refine bodyPost_ret (v:= .tuple #[.agg #[.slice none 0 0,.slice none 0 0,.slice none 0 0,.slice none 0 0,.slice none 0 0,.int .i64 0],.int .i64 0,.int .i64 1]) (by simp[results,Tryz.results56,go_sem,r0,r1,r2,r3,r4,r5]) rfl (.inl ⟨zu N,rfl,?_⟩)
  exact six (zu B1) (by omega) _ _ _ _ _ _
 go_wp2_with fail
 refine(SOk5.sIn sn 1 1000000 b2 _ (zu H2)).mono ?_
 rintro e v2 ⟨rfl,rfl⟩
 cases b2
 ·have N:=zh (show ¬ToldS x.b pp sn sd py from fun hh=>(zu H2).no hh.2.2.1)
  go_wp2
  refine bodyPost_ret (v:= .tuple #[.agg #[.slice none 0 0,.slice none 0 0,.slice none 0 0,.slice none 0 0,.slice none 0 0,.int .i64 0],.int .i64 0,.int .i64 1]) (by simp[results,Tryz.results56,go_sem,r0,r1,r2,r3,r4,r5]) rfl (.inl ⟨zu N,rfl,?_⟩)
  exact six (zu B1) (by omega) _ _ _ _ _ _
 go_wp2_with fail
 refine(SOk5.sIn sd 1 1000000 b3 _ (zu H3)).mono ?_
 rintro e v3 ⟨rfl,rfl⟩
 cases b3
 ·have N:=zh (show ¬ToldS x.b pp sn sd py from fun hh=>(zu H3).no hh.2.2.2.1)
  go_wp2
  refine bodyPost_ret (v:= .tuple #[.agg #[.slice none 0 0,.slice none 0 0,.slice none 0 0,.slice none 0 0,.slice none 0 0,.int .i64 0],.int .i64 0,.int .i64 1]) (by simp[results,Tryz.results56,go_sem,r0,r1,r2,r3,r4,r5]) rfl (.inl ⟨zu N,rfl,?_⟩)
  exact six (zu B1) (by omega) _ _ _ _ _ _
 go_wp2_with fail
 refine(SOk5.sNo py b4 _ (zu H4)).mono ?_
 rintro e v4 ⟨rfl,rfl⟩
 cases b4
 ·have N:=zh (show ¬ToldS x.b pp sn sd py from fun hh=>(zu H4).no hh.2.2.2.2)
  go_wp2
  refine bodyPost_ret (v:= .tuple #[.agg #[.slice none 0 0,.slice none 0 0,.slice none 0 0,.slice none 0 0,.slice none 0 0,.int .i64 0],.int .i64 0,.int .i64 1]) (by simp[results,Tryz.results56,go_sem,r0,r1,r2,r3,r4,r5]) rfl (.inl ⟨zu N,rfl,?_⟩)
  exact six (zu B1) (by omega) _ _ _ _ _ _
 have TT:=zh (show ToldS x.b pp sn sd py from⟨(zu H0).yes,(zu H1).yes,(zu H2).yes,(zu H3).yes,(zu H4).yes⟩)
 have LI:=zh (zu H0).yes.1
 have SM:=zh (ok_small (zu H0).yes)
 have n1:1≤sn:=(zu H2).yes.1
 have n2:sn≤1000000:=(zu H2).yes.2
 have d1:1≤sd:=(zu H3).yes.1
 have d2:sd≤1000000:=(zu H3).yes.2
 clear H0 H1 H2 H3 H4 S0
 clear c0 c1 c2 c3 c4 c5 r0 r1 r2 r3 r4 r5 f0 f1 f2 f3 f4 f5
 obtain⟨K1,hK1⟩:∃K,Hid (kindOf x.b.ac py=K):=⟨_,rfl⟩
 obtain⟨K2,hK2⟩:∃K,Hid (kindOf x.b.ic pp=K):=⟨_,rfl⟩
 go_wp2_with fail
 have Q4:=And.intro (zu S1).c.c0 (zu S1).c.c1
 go_region_held3 (fun w'=>w'.cell? ⟨w.heap.size,0,none⟩=some (.slice (some ⟨x.ga,0,none⟩) x.b.ac.length x.ca)∧w'.cell? ⟨w.heap.size,1,none⟩=some (.slice (some ⟨x.gi,0,none⟩) x.b.ic.length x.ci)) (first|exact Q4|exact Q5|exact Q6)
  (first|(go_at_call 72;refine(SBals.sKindA v4.drew x py K1 ((zu S1).r.below (Below.refl _ _).drew) (zu LI).1 (zu hK1)).mono ?_;rintro e u1 ⟨rfl,bb⟩;have bW:Below v4.heap.size v4 u1:=ILotsFit.below_of_drew bb;have T1:=zh ((zu S1).step bW);have Q5:=And.intro (zu T1).c.c0 (zu T1).c.c1;clear bb bW)|(go_at_call 73;refine(SBals.sKindI u1 x pp K2 (zu T1).r (zu LI).2.1 (zu hK2)).mono ?_;rintro e u2 ⟨rfl,bb2⟩;have S2:=zh ((zu T1).step bb2);have Q6:=And.intro (zu S2).c.c0 (zu S2).c.c1;clear bb2))
 clear Q4 Q5 Q6 T1
 obtain⟨c0,c1,c2,c3,c4,c5⟩:=(zu S2).c
 obtain⟨r0,r1,r2,r3,r4,r5,f0,f1,f2,f3,f4,f5⟩:=Box.all ((zu S2).v)
 go_wp2_with fail
 refine(SHeld.sHeld _ x pp (zu S2).r).mono ?_
 rintro e w3 ⟨who,what,hv,ok,gw,cw,gq,cq,ih,wl',wl2',rfl,oa,oc,gne,bb⟩
 have WL:=zh wl'
 clear wl' wl2'
 have S3:=zh ((zu S2).step bb)
 have IH:=zh ih
 have OA:=zh oa
 have OC:=zh oc
 clear bb ih oa oc
 clear c0 c1 c2 c3 c4 c5 r0 r1 r2 r3 r4 r5 f0 f1 f2 f3 f4 f5
 obtain⟨c0,c1,c2,c3,c4,c5⟩:=(zu S3).c
 obtain⟨r0,r1,r2,r3,r4,r5,f0,f1,f2,f3,f4,f5⟩:=Box.all ((zu S3).v)
 have zero:((K1==0)=true∨((K1==0)=false∧(K2==0)=true))∧Hid (SplNone x.b pp py)∨((K1==0)=false∧(K2==0)=false)∧Hid (¬SplNone x.b pp py):=by
  unfold SplNone
  rw[zu hK1,zu hK2]
  by_cases k1:K1=0
  ·exact .inl ⟨.inl (eq_true k1),.inl k1⟩
  by_cases k2:K2=0
  ·exact .inl ⟨.inr ⟨eq_false k1,eq_true k2⟩,.inr k2⟩
  ·exact .inr ⟨⟨eq_false k1,eq_false k2⟩,fun hh=>by omega⟩
 obtain⟨Z,ZZ⟩|⟨⟨m1,m2⟩,NZ⟩:=zero
 ·have I3:=zh (show IsSplit x.b pp sn sd py x.b 0 3 from .inl ⟨zu ZZ,rfl,rfl,rfl⟩)
  clear hK1 hK2 ZZ IH OA OC
  obtain m1|⟨m1,m2⟩:=Z
  all_goals
   go_wp2_with fail
   refine(SCopy.sCopy _ x (zu S3).r).mono ?_
   rintro e w8 ⟨z,hz,rfl,oz,bb⟩
   have S8:=zh ((zu S3).step bb)
   have OZ:=zh (oz.rebase (zu S3).b.size)
   have LZ:=zh (ow_lo oz)
   have zl:=(zu S3).v.lt.2
   have IZ:=zh (show IsSplit x.b pp sn sd py z.b 0 3 from by rw[hz];exact(zu I3))
   clear bb oz hz
   clear c0 c1 c2 c3 c4 c5 r0 r1 r2 r3 r4 r5 f0 f1 f2 f3 f4 f5
   obtain⟨c0,c1,c2,c3,c4,c5⟩:=(zu S8).c
   obtain⟨r0,r1,r2,r3,r4,r5,f0,f1,f2,f3,f4,f5⟩:=Box.all ((zu S8).v)
   go_wp2
   refine bodyPost_ret (v:= .tuple #[.agg #[.slice (some ⟨z.ga,0,none⟩) z.b.ac.length z.ca,.slice (some ⟨z.gi,0,none⟩) z.b.ic.length z.ci,.slice (some ⟨z.gb,0,none⟩) z.b.bs.length z.cb,.slice (some ⟨z.gl,0,none⟩) z.b.ls.length z.cl,.slice (some ⟨z.gt,0,none⟩) z.b.ts.length z.ct,.int .i64 z.b.lot],.int .i64 0,.int .i64 3]) (by simp[results,Tryz.results56,go_sem,r0,r1,r2,r3,r4,r5]) rfl (.inr ⟨zu TT,z,0,3,zu IZ,rfl,?_,?_⟩)
   ·exact ow_six (zu OZ) (off_lo (zu LZ) zl) _ _ _ _ _ _
   ·exact six (zu S8).b (by omega) _ _ _ _ _ _
 have kinds:((K1 !=2)=true∨((K1 !=2)=false∧(K2 !=2)=true))∧Hid (SplKind x.b pp py)∨((K1 !=2)=false∧(K2 !=2)=false)∧Hid (¬SplKind x.b pp py):=by
  unfold SplKind
  rw[zu hK1,zu hK2]
  by_cases k1:K1=2
  ·by_cases k2:K2=2
   ·exact .inr ⟨⟨ne_false k1,ne_false k2⟩,fun hh=>by omega⟩
   ·exact .inl ⟨.inr ⟨ne_false k1,ne_true k2⟩,.inr k2⟩
  ·exact .inl ⟨.inl (ne_true k1),.inl k1⟩
 obtain⟨Z,ZZ⟩|⟨⟨q1,q2⟩,NK⟩:=kinds
 ·have I4:=zh (show IsSplit x.b pp sn sd py x.b 0 4 from .inr (.inl ⟨zu NZ,zu ZZ,rfl,rfl,rfl⟩))
  clear hK1 hK2 ZZ NZ IH OA OC
  obtain q1|⟨q1,q2⟩:=Z
  all_goals
   go_wp2_with fail
   refine(SCopy.sCopy _ x (zu S3).r).mono ?_
   rintro e w8 ⟨z,hz,rfl,oz,bb⟩
   have S8:=zh ((zu S3).step bb)
   have OZ:=zh (oz.rebase (zu S3).b.size)
   have LZ:=zh (ow_lo oz)
   have zl:=(zu S3).v.lt.2
   have IZ:=zh (show IsSplit x.b pp sn sd py z.b 0 4 from by rw[hz];exact(zu I4))
   clear bb oz hz
   clear c0 c1 c2 c3 c4 c5 r0 r1 r2 r3 r4 r5 f0 f1 f2 f3 f4 f5
   obtain⟨c0,c1,c2,c3,c4,c5⟩:=(zu S8).c
   obtain⟨r0,r1,r2,r3,r4,r5,f0,f1,f2,f3,f4,f5⟩:=Box.all ((zu S8).v)
   go_wp2
   refine bodyPost_ret (v:= .tuple #[.agg #[.slice (some ⟨z.ga,0,none⟩) z.b.ac.length z.ca,.slice (some ⟨z.gi,0,none⟩) z.b.ic.length z.ci,.slice (some ⟨z.gb,0,none⟩) z.b.bs.length z.cb,.slice (some ⟨z.gl,0,none⟩) z.b.ls.length z.cl,.slice (some ⟨z.gt,0,none⟩) z.b.ts.length z.ct,.int .i64 z.b.lot],.int .i64 0,.int .i64 4]) (by simp[results,Tryz.results56,go_sem,r0,r1,r2,r3,r4,r5]) rfl (.inr ⟨zu TT,z,0,4,zu IZ,rfl,?_,?_⟩)
   ·exact ow_six (zu OZ) (off_lo (zu LZ) zl) _ _ _ _ _ _
   ·exact six (zu S8).b (by omega) _ _ _ _ _ _
 clear hK1 hK2
 cases ok
 ·have I8:=zh (show IsSplit x.b pp sn sd py x.b 0 8 from .inr (.inr ⟨zu NZ,zu NK,who,what,hv,false,zu IH,.inl ⟨rfl,rfl,rfl,rfl⟩⟩))
  clear NZ NK IH OA OC
  go_wp2_with fail
  refine(SCopy.sCopy _ x (zu S3).r).mono ?_
  rintro e w8 ⟨z,hz,rfl,oz,bb⟩
  have S8:=zh ((zu S3).step bb)
  have OZ:=zh (oz.rebase (zu S3).b.size)
  have LZ:=zh (ow_lo oz)
  have zl:=(zu S3).v.lt.2
  have IZ:=zh (show IsSplit x.b pp sn sd py z.b 0 8 from by rw[hz];exact(zu I8))
  clear bb oz hz
  clear c0 c1 c2 c3 c4 c5 r0 r1 r2 r3 r4 r5 f0 f1 f2 f3 f4 f5
  obtain⟨c0,c1,c2,c3,c4,c5⟩:=(zu S8).c
  obtain⟨r0,r1,r2,r3,r4,r5,f0,f1,f2,f3,f4,f5⟩:=Box.all ((zu S8).v)
  go_wp2
  refine bodyPost_ret (v:= .tuple #[.agg #[.slice (some ⟨z.ga,0,none⟩) z.b.ac.length z.ca,.slice (some ⟨z.gi,0,none⟩) z.b.ic.length z.ci,.slice (some ⟨z.gb,0,none⟩) z.b.bs.length z.cb,.slice (some ⟨z.gl,0,none⟩) z.b.ls.length z.cl,.slice (some ⟨z.gt,0,none⟩) z.b.ts.length z.ct,.int .i64 z.b.lot],.int .i64 0,.int .i64 8]) (by simp[results,Tryz.results56,go_sem,r0,r1,r2,r3,r4,r5]) rfl (.inr ⟨zu TT,z,0,8,zu IZ,rfl,?_,?_⟩)
  ·exact ow_six (zu OZ) (off_lo (zu LZ) zl) _ _ _ _ _ _
  ·exact six (zu S8).b (by omega) _ _ _ _ _ _
 by_cases hn:who=[]
 ·have I5:=zh (show IsSplit x.b pp sn sd py x.b 0 5 from .inr (.inr ⟨zu NZ,zu NK,who,what,hv,true,zu IH,.inr (.inl ⟨rfl,hn,rfl,rfl,rfl⟩)⟩))
  have lb:((who.length:Int)==0)=true:=by rw[hn];rfl
  clear NZ NK IH OA OC hn
  go_wp2_with fail
  refine(SCopy.sCopy _ x (zu S3).r).mono ?_
  rintro e w8 ⟨z,hz,rfl,oz,bb⟩
  have S8:=zh ((zu S3).step bb)
  have OZ:=zh (oz.rebase (zu S3).b.size)
  have LZ:=zh (ow_lo oz)
  have zl:=(zu S3).v.lt.2
  have IZ:=zh (show IsSplit x.b pp sn sd py z.b 0 5 from by rw[hz];exact(zu I5))
  clear bb oz hz
  clear c0 c1 c2 c3 c4 c5 r0 r1 r2 r3 r4 r5 f0 f1 f2 f3 f4 f5
  obtain⟨c0,c1,c2,c3,c4,c5⟩:=(zu S8).c
  obtain⟨r0,r1,r2,r3,r4,r5,f0,f1,f2,f3,f4,f5⟩:=Box.all ((zu S8).v)
  go_wp2
  refine bodyPost_ret (v:= .tuple #[.agg #[.slice (some ⟨z.ga,0,none⟩) z.b.ac.length z.ca,.slice (some ⟨z.gi,0,none⟩) z.b.ic.length z.ci,.slice (some ⟨z.gb,0,none⟩) z.b.bs.length z.cb,.slice (some ⟨z.gl,0,none⟩) z.b.ls.length z.cl,.slice (some ⟨z.gt,0,none⟩) z.b.ts.length z.ct,.int .i64 z.b.lot],.int .i64 0,.int .i64 5]) (by simp[results,Tryz.results56,go_sem,r0,r1,r2,r3,r4,r5]) rfl (.inr ⟨zu TT,z,0,5,zu IZ,rfl,?_,?_⟩)
  ·exact ow_six (zu OZ) (off_lo (zu LZ) zl) _ _ _ _ _ _
  ·exact six (zu S8).b (by omega) _ _ _ _ _ _
 have lb:((who.length:Int)==0)=false:=by
  have:=List.length_pos_iff.2 hn
  exact eq_false (by omega)
 obtain⟨good,hvt',hwl',h20,hno,_,hw1⟩:=held_good (zu IH) hn
 clear hwl'
 have GD:=zh good
 have NO:=zh hno
 have HN:=zh hn
 have HVT:=zh hvt'
 have v0:0≤hv:=by have:=good.2.2.1;rw[S_tot] at this;omega
 have v1:hv≤1000000000000000:=by have:=good.2.2.2;rw[S_tot] at this;omega
 have WB:=zh (show ∀q∈what,0≤q∧q≤1000000000000000 from fun q hq=>by
  have a:=hw1 q hq
  have b:=tot_one what (fun p hp=>by have:=hw1 p hp;omega) q hq
  omega)
 obtain⟨aq,ar,fine,htl⟩:=tells_is hv sn sd
 have TL:=zh htl
 have qb:=tells_bd htl v0 (by omega) (by omega)
 clear good hno hn hvt' hw1 htl
 go_wp2_with fail
 refine(MulC.sMD hv sn sd aq ar fine _ v0 v1 (by omega) (by omega) d1 (by omega) TL).mono ?_
 rintro e v5 ⟨rfl,rfl⟩
 cases fine
 ·have I8:=zh (show IsSplit x.b pp sn sd py x.b 0 8 from .inr (.inr ⟨zu NZ,zu NK,who,what,hv,true,zu IH,.inr (.inr ⟨rfl,zu HN,aq,ar,false,zu TL,.inl ⟨rfl,rfl,rfl,rfl⟩⟩)⟩))
  clear NZ NK IH OA OC GD NO HN HVT WB TL
  go_wp2_with fail
  refine(SCopy.sCopy _ x (zu S3).r).mono ?_
  rintro e w8 ⟨z,hz,rfl,oz,bb⟩
  have S8:=zh ((zu S3).step bb)
  have OZ:=zh (oz.rebase (zu S3).b.size)
  have LZ:=zh (ow_lo oz)
  have zl:=(zu S3).v.lt.2
  have IZ:=zh (show IsSplit x.b pp sn sd py z.b 0 8 from by rw[hz];exact(zu I8))
  clear bb oz hz
  clear c0 c1 c2 c3 c4 c5 r0 r1 r2 r3 r4 r5 f0 f1 f2 f3 f4 f5
  obtain⟨c0,c1,c2,c3,c4,c5⟩:=(zu S8).c
  obtain⟨r0,r1,r2,r3,r4,r5,f0,f1,f2,f3,f4,f5⟩:=Box.all ((zu S8).v)
  go_wp2
  refine bodyPost_ret (v:= .tuple #[.agg #[.slice (some ⟨z.ga,0,none⟩) z.b.ac.length z.ca,.slice (some ⟨z.gi,0,none⟩) z.b.ic.length z.ci,.slice (some ⟨z.gb,0,none⟩) z.b.bs.length z.cb,.slice (some ⟨z.gl,0,none⟩) z.b.ls.length z.cl,.slice (some ⟨z.gt,0,none⟩) z.b.ts.length z.ct,.int .i64 z.b.lot],.int .i64 0,.int .i64 8]) (by simp[results,Tryz.results56,go_sem,r0,r1,r2,r3,r4,r5]) rfl (.inr ⟨zu TT,z,0,8,zu IZ,rfl,?_,?_⟩)
  ·exact ow_six (zu OZ) (off_lo (zu LZ) zl) _ _ _ _ _ _
  ·exact six (zu S8).b (by omega) _ _ _ _ _ _
 have tot':=zh (show Quota.Tot aq from qb)
 go_wp2_with fail
 refine(SShares.sShares_good _ aq gq what.length cq what rfl (zu OC).lt.2 (zu OC).at (zu GD) (zu tot')).mono ?_
 rintro e w5 ⟨L,MM,gs,cs,ord,hM,hMn,rfl,o3,bb⟩
 obtain⟨ps,hps⟩:∃ps,Hid (bump (wholes aq what what.length) L MM=ps):=⟨_,rfl⟩
 rw[zu hps] at o3
 have ST:=zh (show STells aq what ps true from .inl ⟨zu GD,zu tot',rfl,L,MM,ord,hM,hMn,(zu hps).symm⟩)
 have S4:=zh ((zu S3).step bb)
 have OA4:=zh ((zu OA).below bb (zu OA).lt.2).at
 have OC4:=zh ((zu OC).below bb (zu OC).lt.2).at
 have gwl:gw<w5.heap.size:=Nat.lt_of_lt_of_le (zu OA).lt.2 bb.size
 have gql:gq<w5.heap.size:=Nat.lt_of_lt_of_le (zu OC).lt.2 bb.size
 have OS:=zh o3
 have gsl:gs<w5.heap.size:=o3.lt.2
 obtain⟨pt,pl',pb⟩:=shares_tot (zu ST) rfl
 have PL:=zh pl'
 clear pl'
 have PT:=zh pt
 have PB:=zh pb
 have w53:=bb.size
 clear bb o3 ord hM hMn hps pt pb OA OC GD tot' L MM
 clear c0 c1 c2 c3 c4 c5 r0 r1 r2 r3 r4 r5 f0 f1 f2 f3 f4 f5
 have OL0:=zh (own_none w5)
 have B50:=zh (one_more w5 (.cells #[] 181))
 have WPL:=zh (show ps.length=what.length∧who.length=what.length from⟨zu PL,by have:=zu WL;omega⟩)
 clear WL PL
 go_wp2
 go_loopw [24,25] (fun l j wr=>∃(ls:List T3) (g c k:Nat),l= .slice (some ⟨g,0,none⟩) ls.length c∧j= .int .i64 k∧k≤who.length∧Hid (ls=legsW pp (who.take k) ((moreL ps what).take k))∧Hid (ls.length=k)∧Hid (Own3 181 wr w5.heap.size g ls.length c ls)∧w5.heap.size≤g∧Hid (Below w5.heap.size w5 wr)) (fun _ j _=>who.length-(intOf j).toNat)
 case atStart=>exact⟨[],w5.heap.size,0,0,rfl,rfl,by omega,zh (by simp[legsW]),zh rfl,OL0,Nat.le_refl _,B50⟩
 case round=>
  clear OL0 B50
  obtain⟨ls,g,c,k,rfl,rfl,hk,HL,HLL,OL,hg,HB⟩:=hrel
  have wz1:=(zu HB).size
  by_cases t:k<who.length
  ·have kp:k<ps.length:=by have:=zu WPL;omega
   have kw:k<what.length:=by have:=zu WPL;omega
   have e0:=((zu OA4).below (zu HB) gwl) k t
   have e1:=((zu OS).at.below (zu HB) gsl) k kp
   have e2:=((zu OC4).below (zu HB) gql) k kw
   have TN:=zh (legsW_next (i:=pp) (who:=who) (ps:=moreL ps what) (k:=k) t (by rw[moreL_len (zu WPL).1];have:=zu WPL;omega))
   rw[moreL_getD kp (zu WPL).1] at TN
   have y2b:=(zu PB) (ps.getD k 0) (by simp only[List.getD,List.getElem?_eq_getElem kp,Option.getD_some];exact List.getElem_mem kp)
   have y3b:=(zu WB) (what.getD k 0) (by simp only[List.getD,List.getElem?_eq_getElem kw,Option.getD_some];exact List.getElem_mem kw)
   obtain⟨y0,hy0⟩:∃q,Hid (who.getD k 0=q):=⟨_,rfl⟩
   obtain⟨y2,hy2⟩:∃q,Hid (ps.getD k 0=q):=⟨_,rfl⟩
   obtain⟨y3,hy3⟩:∃q,Hid (what.getD k 0=q):=⟨_,rfl⟩
   rw[zu hy0] at e0 TN
   rw[zu hy2] at e1 TN y2b
   rw[zu hy3] at e2 TN y3b
   clear hy0 hy2 hy3
   have K4:=And.intro e0 (And.intro e1 e2)
   have AO:=zh (one_more wr (.cells #[.int .i64 y0,.int .i64 pp,.int .i64 (y2-y3)] 181))
   have K5:=And.intro (((zu AO).cell (p:=⟨gw,k,none⟩) (show gw<wr.heap.size by omega)).trans e0) (And.intro (((zu AO).cell (p:=⟨gs,k,none⟩) (show gs<wr.heap.size by omega)).trans e1) (((zu AO).cell (p:=⟨gq,k,none⟩) (show gq<wr.heap.size by omega)).trans e2))
   have OG5:=zh ((zu OL).alloc (.cells #[.int .i64 y0,.int .i64 pp,.int .i64 (y2-y3)] 181))
   have X5:=zh (show At3 (wr.alloc (.cells #[.int .i64 y0,.int .i64 pp,.int .i64 (y2-y3)] 181)) wr.heap.size [(y0,pp,y2-y3)] from by
    intro i hi
    obtain rfl:i=0:=by simpa using hi
    simp[Holds3])
   have ne1:some gw≠some g:=fun e=>by injection e;omega
   have ne2:some gs≠some g:=fun e=>by injection e;omega
   have ne3:some gq≠some g:=fun e=>by injection e;omega
   have i2:(k:Int)<(what.length:Int):=by omega
   have i3:(k:Int)<(ps.length:Int):=by omega
   have lsl:ls.length≤100:=by have:=zu HLL;omega
   go_wp2_with fail
   have WS:IntKind.i64.wrap (y2-y3)=y2-y3:=by rw[IntKind.wrap_i64];omega
   refine wp_region_held_drew (S:=(fun w'=>w'.cell? ⟨gw,k,none⟩=some (.int .i64 y0)∧w'.cell? ⟨gs,k,none⟩=some (.int .i64 y2)∧w'.cell? ⟨gq,k,none⟩=some (.int .i64 y3))) (by kernel_rfl) K4 (fun hHeld=>?_)
   refine zT 0 125 (.slice (some ⟨g,0,none⟩) ls.length c) rfl hHeld ?_
   refine zT 1 126 (.slice (some ⟨gw,0,none⟩) who.length cw) rfl hHeld ?_
   refine zT 2 127 (.int .i64 k) rfl hHeld ?_
   refine zT 3 128 (.pointer (some ⟨gw,k,none⟩)) rfl hHeld ?_
   refine zT 4 129 (.int .i64 y0) rfl hHeld ?_
   refine zT 5 130 (.int .i64 pp) rfl hHeld ?_
   refine zT 6 131 (.slice (some ⟨gs,0,none⟩) what.length cs) rfl hHeld ?_
   refine zT 7 132 (.int .i64 k) rfl hHeld ?_
   refine zT 8 133 (.pointer (some ⟨gs,k,none⟩)) rfl hHeld ?_
   refine zT 9 134 (.int .i64 y2) rfl hHeld ?_
   refine zT 10 135 (.slice (some ⟨gq,0,none⟩) what.length cq) rfl hHeld ?_
   refine zT 11 136 (.int .i64 k) rfl hHeld ?_
   refine zT 12 137 (.pointer (some ⟨gq,k,none⟩)) rfl hHeld ?_
   refine zT 13 138 (.int .i64 y3) rfl hHeld ?_
   refine zT 14 139 (.int .i64 (y2-y3)) rfl hHeld ?_
   refine zT 15 140 (.agg #[.int .i64 y0,.int .i64 pp,.int .i64 (y2-y3)]) rfl hHeld ?_
   try simp only[Act.put,zA,zB,zC]
   refine zR 16 rfl (fun K hK=>?_)
   go_simp
   refine hK.out _ _ K5 (fun hHeld=>?_)
   clear hK K
   try simp only[Act.put,zA,zB,zC]
   refine zR 17 rfl (fun K hK=>?_)
   refine SLegs.step_cat3 _ (by rfl) _ _ (by rfl) w5.heap.size g ls.length c 1 ls [(y0,pp,y2-y3)] wr.heap.size 1 (by rfl) (by rfl) (by exact zu OG5) (by rfl) (by exact zu X5) (by omega) (by simp;omega) ?_
   intro g5 c5 w6 o5 gr5 loc5
   have O5:=zh o5
   have GR:=zh gr5
   have LOC:=zh loc5
   have K6:=And.intro (gr5.cell K5.1 ne1) (And.intro (gr5.cell K5.2.1 ne2) (gr5.cell K5.2.2 ne3))
   clear o5 gr5 loc5
   refine hK.out _ _ K6 (fun hHeld=>?_)
   clear hK K
   refine zT 18 24 (.slice (some ⟨g5,0,none⟩) (ls.length+1) c5) rfl hHeld ?_
   try simp only[Act.put,zA,zB,zC]
   refine wpAnyH_done (by kernel_rfl) ?_ _
   clear K4 K5 K6 e0 e1 e2
   have B5:=zh (((zu HB).trans ((zu AO).mono wz1)).drew.grown (zu GR) (by simp;omega) (fun i e=>by injection e;omega))
   have g6:w5.heap.size≤g5:=by
    rcases zu LOC with e|e
    ·omega
    ·rw[e];simp;omega
   go_wp2
   go_roundw
   case rel=>exact⟨ls++[(y0,pp,y2-y3)],g5,c5,k+1,by rw[show(ls++[(y0,pp,y2-y3)]).length=ls.length+1 by simp],by go_num,by omega,zh (by rw[zu TN,zu HL]),zh (by have:=zu HLL;simp;omega),zh (by rw[show(ls++[(y0,pp,y2-y3)]).length=ls.length+1 by simp];exact zu O5),g6,B5⟩
   case measure=>simp[intOf];omega
  ·obtain rfl:k=who.length:=by omega
   have EL:=zh (show ls=legsW pp who (moreL ps what) from by
    rw[zu HL,List.take_length,List.take_of_length_le (by rw[moreL_len (zu WPL).1];have:=zu WPL;omega)])
   clear HL
   have WS2:IntKind.i64.wrap (hv-aq)=hv-aq:=by have:=qb.1;have:=qb.2;rw[IntKind.wrap_i64];omega
   have AO:=zh (one_more wr (.cells #[.int .i64 py,.int .i64 pp,.int .i64 (hv-aq)] 181))
   have OG5:=zh ((zu OL).alloc (.cells #[.int .i64 py,.int .i64 pp,.int .i64 (hv-aq)] 181))
   have X5:=zh (show At3 (wr.alloc (.cells #[.int .i64 py,.int .i64 pp,.int .i64 (hv-aq)] 181)) wr.heap.size [(py,pp,hv-aq)] from by
    intro i hi
    obtain rfl:i=0:=by simpa using hi
    simp[Holds3])
   have lsl:ls.length≤100:=by have:=zu HLL;omega
   go_wp2_with (first|(at_builtin;refine SFx.wp_cat3 _ rfl _ _ rfl w5.heap.size g ls.length c 1 ls [(py,pp,hv-aq)] wr.heap.size 1 rfl rfl (zu OG5) rfl (zu X5) (by omega) (by simp;omega) ?_)|go_in)
   intro g5 cL w6 o5 gr5
   obtain⟨l2,hl2⟩:∃l:List T3,Hid (ls++[(py,pp,hv-aq)]=l):=⟨_,rfl⟩
   have n2:ls.length+1=l2.length:=by rw[←zu hl2];simp
   rw[zu hl2] at o5
   rw[n2] at o5⊢
   have l2l:l2.length≤101:=by omega
   have EL2:=zh (show l2=legsS py pp hv aq who what ps from by rw[←zu hl2,zu EL];rfl)
   have B6:=zh (((zu HB).trans ((zu AO).mono wz1)).grown gr5 (by simp;omega) (fun i e=>by injection e;omega))
   have S5:=zh ((zu S4).step (zu B6))
   have OL6:=zh o5
   have LF:=zh (show Bals.Formed l2 from by rw[zu EL2];exact legsS_formed (zu TT).2.2.2.2 (zu TT).2.1 qb.1 qb.2 v0 v1 (zu WPL).1 (zu WPL).2 h20 (zu NO) (zu PB) (zu WB))
   have LE:=zh (show Bals.Even l2 from by rw[zu EL2];exact legsS_even (zu WPL).1 (zu WPL).2 (zu PT) (zu HVT).symm)
   have OA6:=zh ((zu OA4).below (zu B6) gwl)
   have OS6:=zh ((zu OS).at.below (zu B6) gsl)
   have gw6:gw<w6.heap.size:=Nat.lt_of_lt_of_le gwl (zu B6).size
   have gs6:gs<w6.heap.size:=Nat.lt_of_lt_of_le gsl (zu B6).size
   clear n2 hl2 o5 gr5 OG5 X5 AO OL HLL EL HB OA4 OC4 OS PB NO PT WB B6 lsl HVT
   obtain⟨c0,c1,c2,c3,c4,c5⟩:=(zu S5).c
   obtain⟨r0,r1,r2,r3,r4,r5,f0,f1,f2,f3,f4,f5⟩:=Box.all ((zu S5).v)
   go_wp2_with fail
   refine(SCopy.sCopy _ x (zu S5).r).mono ?_
   rintro e w8 ⟨zc,hzc,rfl,oz,bb⟩
   have S6:=zh ((zu S5).step bb)
   have OZ:=zh (oz.rebase (zu S5).b.size)
   have O3:=zh ((zu OL6).below bb (zu OL6).lt.2)
   have HZ:=zh hzc
   have OA8:=zh ((zu OA6).below bb gw6)
   have OS8:=zh ((zu OS6).below bb gs6)
   have gw8:gw<w8.heap.size:=Nat.lt_of_lt_of_le gw6 bb.size
   have gs8:gs<w8.heap.size:=Nat.lt_of_lt_of_le gs6 bb.size
   clear bb oz hzc OL6 OA6 OS6
   go_wp2_with fail
   refine(sPost w8 w.heap.size zc g5 cL l2 (zu OZ) (by rw[zu HZ];exact zu LI) (by rw[zu HZ];exact zu SM) (by omega) (zu O3).lt.2 (zu O3).at (zu LF) (zu LE)).mono ?_
   rintro e w7 ⟨y,k1,hpo,rfl,oy,bb⟩
   rw[zu HZ] at hpo
   have HP:=zh hpo
   rw[zu EL2] at HP
   have S7:=zh ((zu S6).step bb)
   have OA7:=zh ((zu OA8).below bb gw8)
   have OS7:=zh ((zu OS8).below bb gs8)
   have gw7:gw<w7.heap.size:=Nat.lt_of_lt_of_le gw8 bb.size
   have gs7:gs<w7.heap.size:=Nat.lt_of_lt_of_le gs8 bb.size
   have YL:=zh (show y.b.ls.length≤1048576 from by rw[posted_ls hpo];exact(zu SM).2.2.2.1)
   have OY0:=zh (oy.below (one_more w7 (.cells #[.slice (some ⟨y.ga,0,none⟩) y.b.ac.length y.ca,.slice (some ⟨y.gi,0,none⟩) y.b.ic.length y.ci,.slice (some ⟨y.gb,0,none⟩) y.b.bs.length y.cb,.slice (some ⟨y.gl,0,none⟩) y.b.ls.length y.cl,.slice (some ⟨y.gt,0,none⟩) y.b.ts.length y.ct,.int .i64 y.b.lot] 44)) (Nat.le_refl _))
   have s7l:=(zu S7).v.lt
   have BX0:=zh (Box.made (w:=w7) (base:=w.heap.size) (g:=w7.heap.size) (.slice (some ⟨y.ga,0,none⟩) y.b.ac.length y.ca) (.slice (some ⟨y.gi,0,none⟩) y.b.ic.length y.ci) (.slice (some ⟨y.gb,0,none⟩) y.b.bs.length y.cb) (.slice (some ⟨y.gl,0,none⟩) y.b.ls.length y.cl) (.slice (some ⟨y.gt,0,none⟩) y.b.ts.length y.ct) (.int .i64 y.b.lot) (by omega) rfl)
   have BW0:=zh (one_more w7 (.cells #[.slice (some ⟨y.ga,0,none⟩) y.b.ac.length y.ca,.slice (some ⟨y.gi,0,none⟩) y.b.ic.length y.ci,.slice (some ⟨y.gb,0,none⟩) y.b.bs.length y.cb,.slice (some ⟨y.gl,0,none⟩) y.b.ls.length y.cl,.slice (some ⟨y.gt,0,none⟩) y.b.ts.length y.ct,.int .i64 y.b.lot] 44))
   have IV0:=zh (Inv.start pp (who.zip ps) y.b.ls k1)
   clear bb hpo oy c0 c1 c2 c3 c4 c5 r0 r1 r2 r3 r4 r5 f0 f1 f2 f3 f4 f5 EL2 LF LE OZ O3 HZ S6 S5 OA8 OS8
   go_wp2
   go_loopw [27,28,29,30] (fun cv j _ _ wr=>∃(z:Bx) (cc:Int) (k:Nat),cv= .int .i64 cc∧j= .int .i64 k∧k≤who.length∧Hid (Inv pp (who.zip ps) y.b.ls k1 z.b.ls cc k)∧Hid (z.b={y.b with ls:=z.b.ls})∧Hid (Box wr w.heap.size w7.heap.size (.slice (some ⟨z.ga,0,none⟩) z.b.ac.length z.ca) (.slice (some ⟨z.gi,0,none⟩) z.b.ic.length z.ci) (.slice (some ⟨z.gb,0,none⟩) z.b.bs.length z.cb) (.slice (some ⟨z.gl,0,none⟩) z.b.ls.length z.cl) (.slice (some ⟨z.gt,0,none⟩) z.b.ts.length z.ct) (.int .i64 z.b.lot))∧Hid (Ow wr w.heap.size z)∧Hid (z.b.ls.length≤1048576)∧Hid (Below w7.heap.size w7 wr)) (fun _ j _ _ _=>who.length-(intOf j).toNat)
   case atStart=>exact⟨y,k1,0,rfl,rfl,by omega,IV0,zh rfl,BX0,OY0,YL,BW0⟩
   case round=>
    clear IV0 BX0 OY0 YL BW0
    obtain⟨z,cc,k,rfl,rfl,hk,IV,ZE,BX,OZ,ZL,BW⟩:=hrel
    have S9':=zh ((zu S7).step (zu BW))
    by_cases cz:cc=0
    ·subst cz
     obtain⟨kz,SA⟩:=Inv.zero (zu IV)
     have SA:=zh SA
     have KZ:=zh kz
     clear kz IV
     by_cases t:k<who.length
     ·have kp:k<ps.length:=by have:=zu WPL;omega
      have e0:=((zu OA7).below (zu BW) gw7) k t
      have e1:=((zu OS7).below (zu BW) gs7) k kp
      have TN:=zh (zip_next (k:=k) t kp)
      obtain⟨y0,hy0⟩:∃q,Hid (who.getD k 0=q):=⟨_,rfl⟩
      obtain⟨y2,hy2⟩:∃q,Hid (ps.getD k 0=q):=⟨_,rfl⟩
      rw[zu hy0] at e0 TN
      rw[zu hy2] at e1 TN
      clear hy0 hy2
      obtain⟨l1,dd,hsc⟩:=IsSc.of z.b.ls y0 pp y2
      obtain⟨R,ss,okS,bad,short,full,s1,s2,s3,s4,hR,hl1,hdd⟩:=id hsc
      have SC:=SScale.sScale wr.drew z.gl z.b.ls.length z.cl z.b.ls R ss okS y0 pp y2 bad short full rfl (zu ZL) ((zu OZ).below (Below.refl _ _).drew (Nat.le_refl _)).ol.lt.2 ((zu OZ).below (Below.refl _ _).drew (Nat.le_refl _)).ol.at s1 s2 s3 (zh s4) (zh hR)
      have LL:=zh (show l1.length≤1048576 from by have:=scaled_len (short:=short) (full:=full) s1 hR;rw[hl1];omega)
      rw[←hl1,←hdd] at SC
      have SC:=zh SC
      have HC:=zh hsc
      clear hsc s1 s2 s3 s4 hR hl1 hdd
      have d3:=(zu BX).c3
      have zlt:=(zu BX).lt
      have K4:=And.intro e0 (And.intro e1 d3)
      have i3:(k:Int)<(ps.length:Int):=by omega
      have i2b:(k:Int)<(what.length:Int):=by have:=zu WPL;omega
      have gwr:gw<wr.heap.size:=Nat.lt_of_lt_of_le gw7 (zu BW).size
      have gsr:gs<wr.heap.size:=Nat.lt_of_lt_of_le gs7 (zu BW).size
      go_wp2_with fail
      refine wp_region_held_drew (S:=(fun w'=>w'.cell? ⟨gw,k,none⟩=some (.int .i64 y0)∧w'.cell? ⟨gs,k,none⟩=some (.int .i64 y2)∧w'.cell? ⟨w7.heap.size,3,none⟩=some (.slice (some ⟨z.gl,0,none⟩) z.b.ls.length z.cl))) (by kernel_rfl) K4 (fun hHeld=>?_)
      refine zT 0 170 (.pointer (some ⟨w7.heap.size,3,none⟩)) rfl hHeld ?_
      refine zT 1 171 (.slice (some ⟨z.gl,0,none⟩) z.b.ls.length z.cl) rfl hHeld ?_
      refine zT 2 172 (.slice (some ⟨gw,0,none⟩) who.length cw) rfl hHeld ?_
      refine zT 3 173 (.int .i64 k) rfl hHeld ?_
      refine zT 4 174 (.pointer (some ⟨gw,k,none⟩)) rfl hHeld ?_
      refine zT 5 175 (.int .i64 y0) rfl hHeld ?_
      refine zT 6 176 (.int .i64 pp) rfl hHeld ?_
      refine zT 7 177 (.slice (some ⟨gs,0,none⟩) what.length cs) rfl hHeld ?_
      refine zT 8 178 (.int .i64 k) rfl hHeld ?_
      refine zT 9 179 (.pointer (some ⟨gs,k,none⟩)) rfl hHeld ?_
      refine zT 10 180 (.int .i64 y2) rfl hHeld ?_
      try simp only[Act.put,zA,zB,zC]
      refine zR 11 rfl (fun K hK=>?_)
      go_simp
      go_wp2_with fail
      refine(zu SC).mono ?_
      rintro e u1 ⟨g2,k2,rfl,o2,bb⟩
      have bW:=zh (show Below wr.heap.size wr u1 from ILotsFit.below_of_drew bb)
      have O2:=zh o2
      have K5:=And.intro (((zu bW).cell (p:=⟨gw,k,none⟩) gwr).trans e0) (And.intro (((zu bW).cell (p:=⟨gs,k,none⟩) gsr).trans e1) (((zu bW).cell (p:=⟨w7.heap.size,3,none⟩) zlt.2).trans d3))
      clear bb o2
      go_wp2_with fail
      refine hK.out _ _ K5 (fun hHeld=>?_)
      clear hK K
      refine zT 12 169 (.tuple #[.slice (some ⟨g2,0,none⟩) l1.length k2,.int .i64 dd]) rfl hHeld ?_
      refine zT 13 182 (.slice (some ⟨g2,0,none⟩) l1.length k2) rfl hHeld ?_
      refine zT 14 183 (.int .i64 dd) rfl hHeld ?_
      refine zT 15 29 (.slice (some ⟨g2,0,none⟩) l1.length k2) rfl hHeld ?_
      refine zT 16 30 (.int .i64 dd) rfl hHeld ?_
      try simp only[Act.put,zA,zB,zC]
      refine wpAnyH_done (by kernel_rfl) ?_ _
      clear K4 K5 e0 e1 d3 SC
      have BX1:=zh ((zu BX).below (zu bW) zlt.2)
      have OY2:=zh (ow_withL (lot:=z.b.lot) ((zu OZ).below (zu bW) (Nat.le_refl _)) ((zu O2).rebase (base':=w.heap.size) (by have h1q:=(zu O2).lt.1;have h2q:wr.drew.heap.size=wr.heap.size:=rfl;omega)))
      have F2:=zh (off_box (zu OY2) (zu BX1))
      have ZE2:=zh (congrArg (fun b:Bk=>{b with ls:=l1}) (zu ZE))
      have BW2:=zh (((zu BW).trans ((zu bW).mono (zu BW).size)).setCell (p:=⟨w7.heap.size,3,none⟩) (Nat.le_refl _) (.slice (some ⟨g2,0,none⟩) l1.length k2))
      have IV2:=zh (Inv.next (zu KZ) (zu SA) (zu HC) (zu TN))
      have x3:=(zu BX1).free 3
      have BX2:=zh ((zu BX1).set3 (.slice (some ⟨g2,0,none⟩) l1.length k2)).1
      have OY3:=zh (ow_set (zu OY2) (zu F2) 3 (.slice (some ⟨g2,0,none⟩) l1.length k2))
      clear SA HC TN BX OZ ZE BW O2 bW F2 BX1 OY2
      by_cases dz:dd=0
      ·subst dz
       have IV3:=zh (show Inv pp (who.zip ps) y.b.ls k1 l1 0 (k+1) from by have:=zu IV2;rwa [if_pos rfl] at this)
       clear IV2
       go_wp2
       go_roundw
       case rel=>exact⟨withL z g2 k2 l1 z.b.lot,0,k+1,rfl,by go_num,by omega,IV3,ZE2,BX2,OY3,LL,BW2⟩
       case measure=>simp[intOf];omega
      ·have db:(dd !=0)=true:=ne_true dz
       have IV3:=zh (show Inv pp (who.zip ps) y.b.ls k1 l1 7 (k+1) from by have:=zu IV2;rwa [if_neg dz] at this)
       clear IV2 dz
       go_wp2
       go_roundw
       case rel=>exact⟨withL z g2 k2 l1 z.b.lot,7,k+1,rfl,by go_num,by omega,IV3,ZE2,BX2,OY3,LL,BW2⟩
       case measure=>simp[intOf];omega
     ·obtain rfl:k=who.length:=by omega
      have IZ:=zh (show IsSplit x.b pp sn sd py z.b aq 0 from .inr (.inr ⟨zu NZ,zu NK,who,what,hv,true,zu IH,.inr (.inr ⟨rfl,zu HN,aq,ar,true,zu TL,.inr ⟨rfl,ps,zu ST,y.b,k1,zu HP,.inr ⟨zu KZ,z.b.ls,0,by have:=zu SA;rwa [List.take_of_length_le (by simp;omega)] at this,.inr ⟨rfl,zu ZE,rfl,rfl⟩⟩⟩⟩)⟩))
      have F7:=zh (off_box (zu OZ) (zu S9').v)
      have z0:=(zu BX).c0
      have z1:=(zu BX).c1
      have z2:=(zu BX).c2
      have z3:=(zu BX).c3
      have z4:=(zu BX).c4
      have z5:=(zu BX).c5
      clear NZ NK IH HP ST SA KZ ZE TL HN
      obtain⟨c0,c1,c2,c3,c4,c5⟩:=(zu S9').c
      obtain⟨r0,r1,r2,r3,r4,r5,f0,f1,f2,f3,f4,f5⟩:=Box.all ((zu S9').v)
      go_wp2
      refine to_wb (fun W=>Box W w.heap.size (w.heap.size+1) (.slice (some ⟨z.ga,0,none⟩) z.b.ac.length z.ca) (.slice (some ⟨z.gi,0,none⟩) z.b.ic.length z.ci) (.slice (some ⟨z.gb,0,none⟩) z.b.bs.length z.cb) (.slice (some ⟨z.gl,0,none⟩) z.b.ls.length z.cl) (.slice (some ⟨z.gt,0,none⟩) z.b.ts.length z.ct) (.int .i64 z.b.lot)∧Ow W w.heap.size z∧Below w.heap.size w W) ⟨(box_six (zu S9').v _ _ _ _ _ _).1,ow_six (zu OZ) (zu F7) _ _ _ _ _ _,six (zu S9').b (by omega) _ _ _ _ _ _⟩ ?_
      rintro W ⟨X,OW,B⟩
      have g0:=X.c0
      have g1:=X.c1
      have g2:=X.c2
      have g3:=X.c3
      have g4:=X.c4
      have g5:=X.c5
      exact bodyPost_ret (v:= .tuple #[.agg #[.slice (some ⟨z.ga,0,none⟩) z.b.ac.length z.ca,.slice (some ⟨z.gi,0,none⟩) z.b.ic.length z.ci,.slice (some ⟨z.gb,0,none⟩) z.b.bs.length z.cb,.slice (some ⟨z.gl,0,none⟩) z.b.ls.length z.cl,.slice (some ⟨z.gt,0,none⟩) z.b.ts.length z.ct,.int .i64 z.b.lot],.int .i64 aq,.int .i64 0]) (by simp[results,Tryz.results56,go_sem,g0,g1,g2,g3,g4,g5]) rfl (.inr ⟨zu TT,z,aq,0,zu IZ,rfl,OW,B⟩)
    ·have kb:(cc !=0)=true:=ne_true cz
     have ke:(cc==0)=false:=eq_false cz
     have IE:=zh (show IsSplit x.b pp sn sd py x.b 0 cc from .inr (.inr ⟨zu NZ,zu NK,who,what,hv,true,zu IH,.inr (.inr ⟨rfl,zu HN,aq,ar,true,zu TL,.inr ⟨rfl,ps,zu ST,y.b,k1,zu HP,by
      rcases Inv.other (zu IV) cz with⟨h,h'⟩|⟨h,h'⟩
      ·exact .inl ⟨h,rfl,rfl,h'⟩
      ·exact .inr ⟨h,z.b.ls,cc,h',.inl ⟨cz,rfl,rfl,rfl⟩⟩⟩⟩)⟩))
     clear NZ NK IH HP cz ST IV ZE BX OZ TL HN
     by_cases t:k<who.length
     all_goals
      obtain⟨c0,c1,c2,c3,c4,c5⟩:=(zu S9').c
      obtain⟨r0,r1,r2,r3,r4,r5,f0,f1,f2,f3,f4,f5⟩:=Box.all ((zu S9').v)
      go_wp2_with fail
      refine(SCopy.sCopy _ x (zu S9').r).mono ?_
      rintro e w8 ⟨z,hz,rfl,oz,bb⟩
      have S8:=zh ((zu S9').step bb)
      have OZ:=zh (oz.rebase (zu S9').b.size)
      have LZ:=zh (ow_lo oz)
      have zl:=(zu S9').v.lt.2
      have IZ:=zh (show IsSplit x.b pp sn sd py z.b 0 cc from by rw[hz];exact(zu IE))
      clear bb oz hz
      clear c0 c1 c2 c3 c4 c5 r0 r1 r2 r3 r4 r5 f0 f1 f2 f3 f4 f5
      obtain⟨c0,c1,c2,c3,c4,c5⟩:=(zu S8).c
      obtain⟨r0,r1,r2,r3,r4,r5,f0,f1,f2,f3,f4,f5⟩:=Box.all ((zu S8).v)
      go_wp2
      refine bodyPost_ret (v:= .tuple #[.agg #[.slice (some ⟨z.ga,0,none⟩) z.b.ac.length z.ca,.slice (some ⟨z.gi,0,none⟩) z.b.ic.length z.ci,.slice (some ⟨z.gb,0,none⟩) z.b.bs.length z.cb,.slice (some ⟨z.gl,0,none⟩) z.b.ls.length z.cl,.slice (some ⟨z.gt,0,none⟩) z.b.ts.length z.ct,.int .i64 z.b.lot],.int .i64 0,.int .i64 cc]) (by simp[results,Tryz.results56,go_sem,r0,r1,r2,r3,r4,r5]) rfl (.inr ⟨zu TT,z,0,cc,zu IZ,rfl,?_,?_⟩)
      ·exact ow_six (zu OZ) (off_lo (zu LZ) zl) _ _ _ _ _ _
      ·exact six (zu S8).b (by omega) _ _ _ _ _ _
end SSplitB
namespace SPay
open BMem Bks ILists BHelp Ans SBk Corp Trd Pay
open IBalsFit (one_more)
open Lots (Says says_of NoOk)
open Bals (T3)
open Triples (Own3 At3 Holds3)
open SIssue (to_wb off_box six_alloc box_six_alloc ow_six_alloc eq_true eq_false ne_true ne_false)
open SMove (AnsM)
open SHeld (IsHeld)
open Parts (STells bump wholes)
def ToldP(b:Bk)(pp pc py tt:Int):Prop:=Ok b∧NoOk pp∧NoOk pc∧NoOk py∧(0≤tt∧tt≤1000000000000000)
theorem own_leg(w:World)(a i q:Int):Own3 181 (w.alloc (.cells #[.int .i64 a,.int .i64 i,.int .i64 q] 181)) w.heap.size w.heap.size 1 1 [(a,i,q)]:=
 World.ownsRow_lit w #[.int .i64 a,.int .i64 i,.int .i64 q] 1 (Nat.le_refl _) (by decide) rfl
theorem sPay(w:World)(x:Bx)(pp pc py tt:Int)(hr:Rd w x):
  Calls Tryz.prog 57 #[.agg #[.slice (some ⟨x.ga,0,none⟩) x.b.ac.length x.ca,.slice (some ⟨x.gi,0,none⟩) x.b.ic.length x.ci,.slice (some ⟨x.gb,0,none⟩) x.b.bs.length x.cb,.slice (some ⟨x.gl,0,none⟩) x.b.ls.length x.cl,.slice (some ⟨x.gt,0,none⟩) x.b.ts.length x.ct,.int .i64 x.b.lot],.int .i64 pp,.int .i64 pc,.int .i64 py,.int .i64 tt] w (AnsM (ToldP x.b pp pc py tt) (IsPay x.b pp pc py tt) w):=by
 obtain⟨b0,h0⟩:=says_of (Ok x.b)
 obtain⟨b1,h1⟩:=says_of (NoOk pp)
 obtain⟨b2,h2⟩:=says_of (NoOk pc)
 obtain⟨b3,h3⟩:=says_of (NoOk py)
 obtain⟨b4,h4⟩:=says_of (0≤tt∧tt≤1000000000000000)
 have H0:=zh h0
 have H1:=zh h1
 have H2:=zh h2
 have H3:=zh h3
 have H4:=zh h4
 have S0:=zh (SR.start hr)
 have HR:=zh hr
 clear h0 h1 h2 h3 h4 hr
 go_enter Tryz.func57,Tryz.ntmps57
 go_wp2_with fail
 refine(SBooksOk.sBooksOk _ x b0 (zu S0).r (zu H0)).mono ?_
 rintro e w1 ⟨rfl,bb⟩
 have S1:=zh ((zu S0).step bb)
 have B1:=zh (zu S1).b
 clear bb
 obtain⟨c0,c1,c2,c3,c4,c5⟩:=(zu S1).c
 obtain⟨r0,r1,r2,r3,r4,r5,f0,f1,f2,f3,f4,f5⟩:=Box.all ((zu S1).v)
 cases b0
 ·have N:=zh (show ¬ToldP x.b pp pc py tt from fun hh=>(zu H0).no hh.1)
  go_wp2
  refine bodyPost_ret (v:= .tuple #[.agg #[.slice none 0 0,.slice none 0 0,.slice none 0 0,.slice none 0 0,.slice none 0 0,.int .i64 0],.int .i64 0,.int .i64 1]) (by simp[results,Tryz.results57,go_sem,r0,r1,r2,r3,r4,r5]) rfl (.inl ⟨zu N,rfl,?_⟩)
  exact six (zu B1) (by omega) _ _ _ _ _ _
 go_wp2_with fail
 refine(SOk5.sNo pp b1 _ (zu H1)).mono ?_
 rintro e v1 ⟨rfl,rfl⟩
 cases b1
 ·have N:=zh (show ¬ToldP x.b pp pc py tt from fun hh=>(zu H1).no hh.2.1)
  go_wp2
  refine bodyPost_ret (v:= .tuple #[.agg #[.slice none 0 0,.slice none 0 0,.slice none 0 0,.slice none 0 0,.slice none 0 0,.int .i64 0],.int .i64 0,.int .i64 1]) (by simp[results,Tryz.results57,go_sem,r0,r1,r2,r3,r4,r5]) rfl (.inl ⟨zu N,rfl,?_⟩)
  exact six (zu B1) (by omega) _ _ _ _ _ _
 go_wp2_with fail
 refine(SOk5.sNo pc b2 _ (zu H2)).mono ?_
 rintro e v2 ⟨rfl,rfl⟩
 cases b2
 ·have N:=zh (show ¬ToldP x.b pp pc py tt from fun hh=>(zu H2).no hh.2.2.1)
  go_wp2
  refine bodyPost_ret (v:= .tuple #[.agg #[.slice none 0 0,.slice none 0 0,.slice none 0 0,.slice none 0 0,.slice none 0 0,.int .i64 0],.int .i64 0,.int .i64 1]) (by simp[results,Tryz.results57,go_sem,r0,r1,r2,r3,r4,r5]) rfl (.inl ⟨zu N,rfl,?_⟩)
  exact six (zu B1) (by omega) _ _ _ _ _ _
 go_wp2_with fail
 refine(SOk5.sNo py b3 _ (zu H3)).mono ?_
 rintro e v3 ⟨rfl,rfl⟩
 cases b3
 ·have N:=zh (show ¬ToldP x.b pp pc py tt from fun hh=>(zu H3).no hh.2.2.2.1)
  go_wp2
  refine bodyPost_ret (v:= .tuple #[.agg #[.slice none 0 0,.slice none 0 0,.slice none 0 0,.slice none 0 0,.slice none 0 0,.int .i64 0],.int .i64 0,.int .i64 1]) (by simp[results,Tryz.results57,go_sem,r0,r1,r2,r3,r4,r5]) rfl (.inl ⟨zu N,rfl,?_⟩)
  exact six (zu B1) (by omega) _ _ _ _ _ _
 go_wp2_with fail
 refine(SOk5.sSome tt 0 b4 _ (zu H4)).mono ?_
 rintro e v4 ⟨rfl,rfl⟩
 cases b4
 ·have N:=zh (show ¬ToldP x.b pp pc py tt from fun hh=>(zu H4).no hh.2.2.2.2)
  go_wp2
  refine bodyPost_ret (v:= .tuple #[.agg #[.slice none 0 0,.slice none 0 0,.slice none 0 0,.slice none 0 0,.slice none 0 0,.int .i64 0],.int .i64 0,.int .i64 1]) (by simp[results,Tryz.results57,go_sem,r0,r1,r2,r3,r4,r5]) rfl (.inl ⟨zu N,rfl,?_⟩)
  exact six (zu B1) (by omega) _ _ _ _ _ _
 have TT:=zh (show ToldP x.b pp pc py tt from⟨(zu H0).yes,(zu H1).yes,(zu H2).yes,(zu H3).yes,(zu H4).yes⟩)
 have LI:=zh (zu H0).yes.1
 have SM:=zh (ok_small (zu H0).yes)
 have a1:0≤tt:=(zu H4).yes.1
 have a2:tt≤1000000000000000:=(zu H4).yes.2
 clear H0 H1 H2 H3 H4 S0
 clear c0 c1 c2 c3 c4 c5 r0 r1 r2 r3 r4 r5 f0 f1 f2 f3 f4 f5
 obtain⟨K1,hK1⟩:∃K,Hid (kindOf x.b.ac py=K):=⟨_,rfl⟩
 obtain⟨K2,hK2⟩:∃K,Hid (kindOf x.b.ic pp=K):=⟨_,rfl⟩
 obtain⟨K3,hK3⟩:∃K,Hid (kindOf x.b.ic pc=K):=⟨_,rfl⟩
 have M1:=trivial
 go_wp2_with fail
 have Q4:=And.intro (zu S1).c.c0 (zu S1).c.c1
 go_region_held3 (fun w'=>w'.cell? ⟨w.heap.size,0,none⟩=some (.slice (some ⟨x.ga,0,none⟩) x.b.ac.length x.ca)∧w'.cell? ⟨w.heap.size,1,none⟩=some (.slice (some ⟨x.gi,0,none⟩) x.b.ic.length x.ci)) (first|exact Q4|exact Q5|exact Q6|exact Q7)
  (first|(go_at_call 72;refine(SBals.sKindA v4.drew x py K1 ((zu S1).r.below (Below.refl _ _).drew) (zu LI).1 (zu hK1)).mono ?_;rintro e u1 ⟨rfl,bb⟩;have bW:Below v4.heap.size v4 u1:=ILotsFit.below_of_drew bb;have T1:=zh ((zu S1).step bW);have Q5:=And.intro (zu T1).c.c0 (zu T1).c.c1;clear bb bW)|(go_at_call 73;clear M1;refine(SBals.sKindI u1 x pp K2 (zu T1).r (zu LI).2.1 (zu hK2)).mono ?_;rintro e u2 ⟨rfl,bb2⟩;have T2:=zh ((zu T1).step bb2);have Q6:=And.intro (zu T2).c.c0 (zu T2).c.c1;clear bb2)|(go_at_call 73;refine(SBals.sKindI u2 x pc K3 (zu T2).r (zu LI).2.1 (zu hK3)).mono ?_;rintro e u3 ⟨rfl,bb3⟩;have S2:=zh ((zu T2).step bb3);have Q7:=And.intro (zu S2).c.c0 (zu S2).c.c1;clear bb3))
 clear Q4 Q5 Q6 Q7 T1 T2
 obtain⟨c0,c1,c2,c3,c4,c5⟩:=(zu S2).c
 obtain⟨r0,r1,r2,r3,r4,r5,f0,f1,f2,f3,f4,f5⟩:=Box.all ((zu S2).v)
 go_wp2_with fail
 refine(SHeld.sHeld _ x pp (zu S2).r).mono ?_
 rintro e w3 ⟨who,what,all,ok,gw,cw,gq,cq,ih,wl',wl2',rfl,oa,oc,gne,bb⟩
 have WL:=zh wl'
 clear wl' wl2'
 have S3:=zh ((zu S2).step bb)
 have IH:=zh ih
 have OA:=zh oa
 have OC:=zh oc
 clear bb ih oa oc
 clear c0 c1 c2 c3 c4 c5 r0 r1 r2 r3 r4 r5 f0 f1 f2 f3 f4 f5
 obtain⟨c0,c1,c2,c3,c4,c5⟩:=(zu S3).c
 obtain⟨r0,r1,r2,r3,r4,r5,f0,f1,f2,f3,f4,f5⟩:=Box.all ((zu S3).v)
 have zero:((K1==0)=true∨((K1==0)=false∧(K2==0)=true)∨((K1==0)=false∧(K2==0)=false∧(K3==0)=true))∧Hid (PayNone x.b pp pc py)∨((K1==0)=false∧(K2==0)=false∧(K3==0)=false)∧Hid (¬PayNone x.b pp pc py):=by
  unfold PayNone
  rw[zu hK1,zu hK2,zu hK3]
  by_cases k1:K1=0
  ·exact .inl ⟨.inl (eq_true k1),.inl k1⟩
  by_cases k2:K2=0
  ·exact .inl ⟨.inr (.inl ⟨eq_false k1,eq_true k2⟩),.inr (.inl k2)⟩
  by_cases k3:K3=0
  ·exact .inl ⟨.inr (.inr ⟨eq_false k1,eq_false k2,eq_true k3⟩),.inr (.inr k3)⟩
  ·exact .inr ⟨⟨eq_false k1,eq_false k2,eq_false k3⟩,fun hh=>by omega⟩
 obtain⟨Z,ZZ⟩|⟨⟨m1,m2,m3⟩,NZ⟩:=zero
 ·have I3:=zh (show IsPay x.b pp pc py tt x.b 0 3 from .inl ⟨zu ZZ,rfl,rfl,rfl⟩)
  clear hK1 hK2 hK3 ZZ IH OA OC
  obtain m1|⟨m1,m2⟩|⟨m1,m2,m3⟩:=Z
  all_goals
   go_wp2_with fail
   refine(SCopy.sCopy _ x (zu S3).r).mono ?_
   rintro e w8 ⟨z,hz,rfl,oz,bb⟩
   have S8:=zh ((zu S3).step bb)
   have OZ:=zh (oz.rebase (zu S3).b.size)
   have LZ:=zh (ow_lo oz)
   have zl:=(zu S3).v.lt.2
   have IZ:=zh (show IsPay x.b pp pc py tt z.b 0 3 from by rw[hz];exact(zu I3))
   clear bb oz hz
   clear c0 c1 c2 c3 c4 c5 r0 r1 r2 r3 r4 r5 f0 f1 f2 f3 f4 f5
   obtain⟨c0,c1,c2,c3,c4,c5⟩:=(zu S8).c
   obtain⟨r0,r1,r2,r3,r4,r5,f0,f1,f2,f3,f4,f5⟩:=Box.all ((zu S8).v)
   go_wp2
   refine bodyPost_ret (v:= .tuple #[.agg #[.slice (some ⟨z.ga,0,none⟩) z.b.ac.length z.ca,.slice (some ⟨z.gi,0,none⟩) z.b.ic.length z.ci,.slice (some ⟨z.gb,0,none⟩) z.b.bs.length z.cb,.slice (some ⟨z.gl,0,none⟩) z.b.ls.length z.cl,.slice (some ⟨z.gt,0,none⟩) z.b.ts.length z.ct,.int .i64 z.b.lot],.int .i64 0,.int .i64 3]) (by simp[results,Tryz.results57,go_sem,r0,r1,r2,r3,r4,r5]) rfl (.inr ⟨zu TT,z,0,3,zu IZ,rfl,?_,?_⟩)
   ·exact ow_six (zu OZ) (off_lo (zu LZ) zl) _ _ _ _ _ _
   ·exact six (zu S8).b (by omega) _ _ _ _ _ _
 have kinds:((K1 !=2)=true∨((K1 !=2)=false∧(K2 !=2)=true)∨((K1 !=2)=false∧(K2 !=2)=false∧(K3 !=1)=true))∧Hid (PayKind x.b pp pc py)∨((K1 !=2)=false∧(K2 !=2)=false∧(K3 !=1)=false)∧Hid (¬PayKind x.b pp pc py):=by
  unfold PayKind
  rw[zu hK1,zu hK2,zu hK3]
  by_cases k1:K1=2
  ·by_cases k2:K2=2
   ·by_cases k3:K3=1
    ·exact .inr ⟨⟨ne_false k1,ne_false k2,ne_false k3⟩,fun hh=>by omega⟩
    ·exact .inl ⟨.inr (.inr ⟨ne_false k1,ne_false k2,ne_true k3⟩),.inr (.inr k3)⟩
   ·exact .inl ⟨.inr (.inl ⟨ne_false k1,ne_true k2⟩),.inr (.inl k2)⟩
  ·exact .inl ⟨.inl (ne_true k1),.inl k1⟩
 obtain⟨Z,ZZ⟩|⟨⟨q1,q2,q3⟩,NK⟩:=kinds
 ·have I4:=zh (show IsPay x.b pp pc py tt x.b 0 4 from .inr (.inl ⟨zu NZ,zu ZZ,rfl,rfl,rfl⟩))
  clear hK1 hK2 hK3 ZZ NZ IH OA OC
  obtain q1|⟨q1,q2⟩|⟨q1,q2,q3⟩:=Z
  all_goals
   go_wp2_with fail
   refine(SCopy.sCopy _ x (zu S3).r).mono ?_
   rintro e w8 ⟨z,hz,rfl,oz,bb⟩
   have S8:=zh ((zu S3).step bb)
   have OZ:=zh (oz.rebase (zu S3).b.size)
   have LZ:=zh (ow_lo oz)
   have zl:=(zu S3).v.lt.2
   have IZ:=zh (show IsPay x.b pp pc py tt z.b 0 4 from by rw[hz];exact(zu I4))
   clear bb oz hz
   clear c0 c1 c2 c3 c4 c5 r0 r1 r2 r3 r4 r5 f0 f1 f2 f3 f4 f5
   obtain⟨c0,c1,c2,c3,c4,c5⟩:=(zu S8).c
   obtain⟨r0,r1,r2,r3,r4,r5,f0,f1,f2,f3,f4,f5⟩:=Box.all ((zu S8).v)
   go_wp2
   refine bodyPost_ret (v:= .tuple #[.agg #[.slice (some ⟨z.ga,0,none⟩) z.b.ac.length z.ca,.slice (some ⟨z.gi,0,none⟩) z.b.ic.length z.ci,.slice (some ⟨z.gb,0,none⟩) z.b.bs.length z.cb,.slice (some ⟨z.gl,0,none⟩) z.b.ls.length z.cl,.slice (some ⟨z.gt,0,none⟩) z.b.ts.length z.ct,.int .i64 z.b.lot],.int .i64 0,.int .i64 4]) (by simp[results,Tryz.results57,go_sem,r0,r1,r2,r3,r4,r5]) rfl (.inr ⟨zu TT,z,0,4,zu IZ,rfl,?_,?_⟩)
   ·exact ow_six (zu OZ) (off_lo (zu LZ) zl) _ _ _ _ _ _
   ·exact six (zu S8).b (by omega) _ _ _ _ _ _
 clear hK1 hK2 hK3
 cases ok
 ·have I8:=zh (show IsPay x.b pp pc py tt x.b 0 8 from .inr (.inr ⟨zu NZ,zu NK,who,what,all,false,zu IH,.inl ⟨rfl,rfl,rfl,rfl⟩⟩))
  clear NZ NK IH OA OC
  go_wp2_with fail
  refine(SCopy.sCopy _ x (zu S3).r).mono ?_
  rintro e w8 ⟨z,hz,rfl,oz,bb⟩
  have S8:=zh ((zu S3).step bb)
  have OZ:=zh (oz.rebase (zu S3).b.size)
  have LZ:=zh (ow_lo oz)
  have zl:=(zu S3).v.lt.2
  have IZ:=zh (show IsPay x.b pp pc py tt z.b 0 8 from by rw[hz];exact(zu I8))
  clear bb oz hz
  clear c0 c1 c2 c3 c4 c5 r0 r1 r2 r3 r4 r5 f0 f1 f2 f3 f4 f5
  obtain⟨c0,c1,c2,c3,c4,c5⟩:=(zu S8).c
  obtain⟨r0,r1,r2,r3,r4,r5,f0,f1,f2,f3,f4,f5⟩:=Box.all ((zu S8).v)
  go_wp2
  refine bodyPost_ret (v:= .tuple #[.agg #[.slice (some ⟨z.ga,0,none⟩) z.b.ac.length z.ca,.slice (some ⟨z.gi,0,none⟩) z.b.ic.length z.ci,.slice (some ⟨z.gb,0,none⟩) z.b.bs.length z.cb,.slice (some ⟨z.gl,0,none⟩) z.b.ls.length z.cl,.slice (some ⟨z.gt,0,none⟩) z.b.ts.length z.ct,.int .i64 z.b.lot],.int .i64 0,.int .i64 8]) (by simp[results,Tryz.results57,go_sem,r0,r1,r2,r3,r4,r5]) rfl (.inr ⟨zu TT,z,0,8,zu IZ,rfl,?_,?_⟩)
  ·exact ow_six (zu OZ) (off_lo (zu LZ) zl) _ _ _ _ _ _
  ·exact six (zu S8).b (by omega) _ _ _ _ _ _
 by_cases hn:who=[]
 ·have I5:=zh (show IsPay x.b pp pc py tt x.b 0 5 from .inr (.inr ⟨zu NZ,zu NK,who,what,all,true,zu IH,.inr (.inl ⟨rfl,hn,rfl,rfl,rfl⟩)⟩))
  have lb:((who.length:Int)==0)=true:=by rw[hn];rfl
  clear NZ NK IH OA OC hn
  go_wp2_with fail
  refine(SCopy.sCopy _ x (zu S3).r).mono ?_
  rintro e w8 ⟨z,hz,rfl,oz,bb⟩
  have S8:=zh ((zu S3).step bb)
  have OZ:=zh (oz.rebase (zu S3).b.size)
  have LZ:=zh (ow_lo oz)
  have zl:=(zu S3).v.lt.2
  have IZ:=zh (show IsPay x.b pp pc py tt z.b 0 5 from by rw[hz];exact(zu I5))
  clear bb oz hz
  clear c0 c1 c2 c3 c4 c5 r0 r1 r2 r3 r4 r5 f0 f1 f2 f3 f4 f5
  obtain⟨c0,c1,c2,c3,c4,c5⟩:=(zu S8).c
  obtain⟨r0,r1,r2,r3,r4,r5,f0,f1,f2,f3,f4,f5⟩:=Box.all ((zu S8).v)
  go_wp2
  refine bodyPost_ret (v:= .tuple #[.agg #[.slice (some ⟨z.ga,0,none⟩) z.b.ac.length z.ca,.slice (some ⟨z.gi,0,none⟩) z.b.ic.length z.ci,.slice (some ⟨z.gb,0,none⟩) z.b.bs.length z.cb,.slice (some ⟨z.gl,0,none⟩) z.b.ls.length z.cl,.slice (some ⟨z.gt,0,none⟩) z.b.ts.length z.ct,.int .i64 z.b.lot],.int .i64 0,.int .i64 5]) (by simp[results,Tryz.results57,go_sem,r0,r1,r2,r3,r4,r5]) rfl (.inr ⟨zu TT,z,0,5,zu IZ,rfl,?_,?_⟩)
  ·exact ow_six (zu OZ) (off_lo (zu LZ) zl) _ _ _ _ _ _
  ·exact six (zu S8).b (by omega) _ _ _ _ _ _
 have lb:((who.length:Int)==0)=false:=by
  have:=List.length_pos_iff.2 hn
  exact eq_false (by omega)
 obtain⟨good,_,hwl',h20,hno,_,_⟩:=held_good (zu IH) hn
 clear hwl'
 have GD:=zh good
 have NO:=zh hno
 have HN:=zh hn
 have tot':=zh (show Quota.Tot tt from⟨a1,a2⟩)
 clear good hno hn
 go_wp2_with fail
 refine(SShares.sShares_good _ tt gq what.length cq what rfl (zu OC).lt.2 (zu OC).at (zu GD) (zu tot')).mono ?_
 rintro e w5 ⟨L,MM,gs,cs,ord,hM,hMn,rfl,o3,bb⟩
 obtain⟨ps,hps⟩:∃ps,Hid (bump (wholes tt what what.length) L MM=ps):=⟨_,rfl⟩
 rw[zu hps] at o3
 have ST:=zh (show STells tt what ps true from .inl ⟨zu GD,zu tot',rfl,L,MM,ord,hM,hMn,(zu hps).symm⟩)
 have S4:=zh ((zu S3).step bb)
 have OA4:=zh ((zu OA).below bb (zu OA).lt.2).at
 have gwl:gw<w5.heap.size:=Nat.lt_of_lt_of_le (zu OA).lt.2 bb.size
 have OS:=zh o3
 have gsl:gs<w5.heap.size:=o3.lt.2
 obtain⟨pt,pl',pb⟩:=shares_tot (zu ST) rfl
 have PL:=zh pl'
 clear pl'
 have PT:=zh pt
 have PB:=zh pb
 have w53:=bb.size
 clear bb o3 ord hM hMn hps pt pb OA OC GD tot' L MM
 clear c0 c1 c2 c3 c4 c5 r0 r1 r2 r3 r4 r5 f0 f1 f2 f3 f4 f5
 have OL0:=zh (own_leg w5 py pc (-tt))
 have B50:=zh (one_more w5 (.cells #[.int .i64 py,.int .i64 pc,.int .i64 (-tt)] 181))
 go_wp2
 go_loopw [22,23] (fun l j wr=>∃(ls:List T3) (g c k:Nat),l= .slice (some ⟨g,0,none⟩) ls.length c∧j= .int .i64 k∧k≤who.length∧Hid (ls=(py,pc,-tt)::legsW pc (who.take k) (ps.take k))∧Hid (ls.length=k+1)∧Hid (Own3 181 wr w5.heap.size g ls.length c ls)∧w5.heap.size≤g∧Hid (Below w5.heap.size w5 wr)) (fun _ j _=>who.length-(intOf j).toNat)
 case atStart=>exact⟨[(py,pc,-tt)],w5.heap.size,1,0,rfl,rfl,by omega,zh (by simp[legsW]),zh rfl,OL0,Nat.le_refl _,B50⟩
 case round=>
  clear OL0 B50
  obtain⟨ls,g,c,k,rfl,rfl,hk,HL,HLL,OL,hg,HB⟩:=hrel
  have wz1:=(zu HB).size
  by_cases t:k<who.length
  ·have e0:=((zu OA4).below (zu HB) gwl) k t
   have e1:=((zu OS).at.below (zu HB) gsl) k (by have:=zu WL;have:=zu PL;omega)
   have TN:=zh (legsW_next (i:=pc) (who:=who) (ps:=ps) (k:=k) t (by have:=zu WL;have:=zu PL;omega))
   obtain⟨y0,hy0⟩:∃q,Hid (who.getD k 0=q):=⟨_,rfl⟩
   obtain⟨y2,hy2⟩:∃q,Hid (ps.getD k 0=q):=⟨_,rfl⟩
   rw[zu hy0] at e0 TN
   rw[zu hy2] at e1 TN
   clear hy0 hy2
   have K4:=And.intro e0 e1
   have AO:=zh (one_more wr (.cells #[.int .i64 y0,.int .i64 pc,.int .i64 y2] 181))
   have K5:=And.intro (((zu AO).cell (p:=⟨gw,k,none⟩) (show gw<wr.heap.size by omega)).trans e0) (((zu AO).cell (p:=⟨gs,k,none⟩) (show gs<wr.heap.size by omega)).trans e1)
   have OG5:=zh ((zu OL).alloc (.cells #[.int .i64 y0,.int .i64 pc,.int .i64 y2] 181))
   have X5:=zh (show At3 (wr.alloc (.cells #[.int .i64 y0,.int .i64 pc,.int .i64 y2] 181)) wr.heap.size [(y0,pc,y2)] from by
    intro i hi
    obtain rfl:i=0:=by simpa using hi
    simp[Holds3])
   have ne1:some gw≠some g:=fun e=>by injection e;omega
   have ne2:some gs≠some g:=fun e=>by injection e;omega
   have i2:(k:Int)<(what.length:Int):=by have:=zu WL;omega
   have lsl:ls.length≤100:=by have:=zu HLL;omega
   go_wp2_with fail
   go_region_held3 (fun w'=>w'.cell? ⟨gw,k,none⟩=some (.int .i64 y0)∧w'.cell? ⟨gs,k,none⟩=some (.int .i64 y2)) (first|exact K4|exact K5|exact K6)
    (first|(refine SLegs.step_cat3 _ (by rfl) _ _ (by rfl) w5.heap.size g ls.length c 1 ls [(y0,pc,y2)] wr.heap.size 1 (by rfl) (by rfl) (by exact zu OG5) (by rfl) (by exact zu X5) (by omega) (by simp;omega) ?_;intro g5 c5 w6 o5 gr5 loc5;have O5:=zh o5;have GR:=zh gr5;have LOC:=zh loc5;have K6:=And.intro (gr5.cell K5.1 ne1) (gr5.cell K5.2 ne2);clear o5 gr5 loc5))
   clear K4 K5 K6 e0 e1
   have B5:=zh (((zu HB).trans ((zu AO).mono wz1)).drew.grown (zu GR) (by simp;omega) (fun i e=>by injection e;omega))
   have g6:w5.heap.size≤g5:=by
    rcases zu LOC with e|e
    ·omega
    ·rw[e];simp;omega
   go_wp2
   go_roundw
   case rel=>exact⟨ls++[(y0,pc,y2)],g5,c5,k+1,by rw[show(ls++[(y0,pc,y2)]).length=ls.length+1 by simp],by go_num,by omega,zh (by rw[zu TN,zu HL];rfl),zh (by have:=zu HLL;simp;omega),zh (by rw[show(ls++[(y0,pc,y2)]).length=ls.length+1 by simp];exact zu O5),g6,B5⟩
   case measure=>simp[intOf];omega
  ·obtain rfl:k=who.length:=by omega
   have EL:=zh (show ls=legsP py pc tt who ps from by
    rw[zu HL,List.take_length,List.take_of_length_le (by have:=zu WL;have:=zu PL;omega)];rfl)
   have S5:=zh ((zu S4).step (zu HB))
   have LF:=zh (show Bals.Formed ls from by rw[zu EL];exact legsP_formed (zu TT).2.2.2.1 (zu TT).2.2.1 a1 a2 (by have:=zu WL;have:=zu PL;omega) h20 (zu NO) (zu PB))
   have LE:=zh (show Bals.Even ls from by rw[zu EL];exact legsP_even (by have:=zu WL;have:=zu PL;omega) (zu PT))
   clear HL HB OA4 OS PB NO PT
   obtain⟨c0,c1,c2,c3,c4,c5⟩:=(zu S5).c
   obtain⟨r0,r1,r2,r3,r4,r5,f0,f1,f2,f3,f4,f5⟩:=Box.all ((zu S5).v)
   go_wp2_with fail
   refine(SCopy.sCopy _ x (zu S5).r).mono ?_
   rintro e w6 ⟨zc,hzc,rfl,oz,bb⟩
   have S6:=zh ((zu S5).step bb)
   have OZ:=zh (oz.rebase (zu S5).b.size)
   have O3:=zh ((zu OL).below bb (zu OL).lt.2)
   have HZ:=zh hzc
   clear bb oz hzc OL
   go_wp2_with fail
   refine(sPost w6 w.heap.size zc g c ls (zu OZ) (by rw[zu HZ];exact zu LI) (by rw[zu HZ];exact zu SM) (by have:=zu HLL;omega) (zu O3).lt.2 (zu O3).at (zu LF) (zu LE)).mono ?_
   rintro e w7 ⟨y,k1,hpo,rfl,oy,bb⟩
   rw[zu HZ] at hpo
   have HP:=zh hpo
   rw[zu EL] at HP
   have S7:=zh ((zu S6).step bb)
   have S8':=zh ((zu S7).step (one_more w7 (.cells #[.slice (some ⟨y.ga,0,none⟩) y.b.ac.length y.ca,.slice (some ⟨y.gi,0,none⟩) y.b.ic.length y.ci,.slice (some ⟨y.gb,0,none⟩) y.b.bs.length y.cb,.slice (some ⟨y.gl,0,none⟩) y.b.ls.length y.cl,.slice (some ⟨y.gt,0,none⟩) y.b.ts.length y.ct,.int .i64 y.b.lot] 44)))
   have OY:=zh oy
   have s7l:=(zu S7).v.lt
   have ne7:w.heap.size+1≠w7.heap.size:=by omega
   have ne8:w.heap.size≠w7.heap.size:=by omega
   clear bb hpo oy c0 c1 c2 c3 c4 c5 r0 r1 r2 r3 r4 r5 f0 f1 f2 f3 f4 f5 EL LF LE
   by_cases kz:k1=0
   ·subst kz
    have IZ:=zh (show IsPay x.b pp pc py tt y.b (who.length:Int) 0 from .inr (.inr ⟨zu NZ,zu NK,who,what,all,true,zu IH,.inr (.inr ⟨rfl,zu HN,ps,zu ST,y.b,0,zu HP,.inr ⟨rfl,rfl,rfl,rfl⟩⟩)⟩))
    have F7:=zh (off_box (zu OY) (zu S7).v)
    clear NZ NK IH HP ST
    obtain⟨c0,c1,c2,c3,c4,c5⟩:=(zu S7).c
    obtain⟨r0,r1,r2,r3,r4,r5,f0,f1,f2,f3,f4,f5⟩:=Box.all ((zu S7).v)
    go_wp2
    refine to_wb (fun W=>Box W w.heap.size (w.heap.size+1) (.slice (some ⟨y.ga,0,none⟩) y.b.ac.length y.ca) (.slice (some ⟨y.gi,0,none⟩) y.b.ic.length y.ci) (.slice (some ⟨y.gb,0,none⟩) y.b.bs.length y.cb) (.slice (some ⟨y.gl,0,none⟩) y.b.ls.length y.cl) (.slice (some ⟨y.gt,0,none⟩) y.b.ts.length y.ct) (.int .i64 y.b.lot)∧Ow W w.heap.size y∧Below w.heap.size w W) ⟨box_six_alloc (zu S7).v _ _ _ _ _ _ _,ow_six_alloc (zu OY) (zu F7) (Nat.le_refl _) _ _ _ _ _ _ _,six_alloc (zu S7).b (zu S7).b.size (by omega) _ _ _ _ _ _ _⟩ ?_
    rintro W ⟨X,OW,B⟩
    have g0:=X.c0
    have g1:=X.c1
    have g2:=X.c2
    have g3:=X.c3
    have g4:=X.c4
    have g5:=X.c5
    exact bodyPost_ret (v:= .tuple #[.agg #[.slice (some ⟨y.ga,0,none⟩) y.b.ac.length y.ca,.slice (some ⟨y.gi,0,none⟩) y.b.ic.length y.ci,.slice (some ⟨y.gb,0,none⟩) y.b.bs.length y.cb,.slice (some ⟨y.gl,0,none⟩) y.b.ls.length y.cl,.slice (some ⟨y.gt,0,none⟩) y.b.ts.length y.ct,.int .i64 y.b.lot],.int .i64 who.length,.int .i64 0]) (by simp[results,Tryz.results57,go_sem,g0,g1,g2,g3,g4,g5]) rfl (.inr ⟨zu TT,y,who.length,0,zu IZ,rfl,OW,B⟩)
   ·have kb:(k1 !=0)=true:=ne_true kz
    have IE:=zh (show IsPay x.b pp pc py tt x.b 0 k1 from .inr (.inr ⟨zu NZ,zu NK,who,what,all,true,zu IH,.inr (.inr ⟨rfl,zu HN,ps,zu ST,y.b,k1,zu HP,.inl ⟨kz,rfl,rfl,rfl⟩⟩)⟩))
    clear NZ NK IH HP kz ST
    obtain⟨c0,c1,c2,c3,c4,c5⟩:=(zu S8').c
    obtain⟨r0,r1,r2,r3,r4,r5,f0,f1,f2,f3,f4,f5⟩:=Box.all ((zu S8').v)
    go_wp2_with fail
    refine(SCopy.sCopy _ x (zu S8').r).mono ?_
    rintro e w8 ⟨z,hz,rfl,oz,bb⟩
    have S8:=zh ((zu S8').step bb)
    have OZ:=zh (oz.rebase (zu S8').b.size)
    have LZ:=zh (ow_lo oz)
    have zl:=(zu S8').v.lt.2
    have IZ:=zh (show IsPay x.b pp pc py tt z.b 0 k1 from by rw[hz];exact(zu IE))
    clear bb oz hz
    clear c0 c1 c2 c3 c4 c5 r0 r1 r2 r3 r4 r5 f0 f1 f2 f3 f4 f5
    obtain⟨c0,c1,c2,c3,c4,c5⟩:=(zu S8).c
    obtain⟨r0,r1,r2,r3,r4,r5,f0,f1,f2,f3,f4,f5⟩:=Box.all ((zu S8).v)
    go_wp2
    refine bodyPost_ret (v:= .tuple #[.agg #[.slice (some ⟨z.ga,0,none⟩) z.b.ac.length z.ca,.slice (some ⟨z.gi,0,none⟩) z.b.ic.length z.ci,.slice (some ⟨z.gb,0,none⟩) z.b.bs.length z.cb,.slice (some ⟨z.gl,0,none⟩) z.b.ls.length z.cl,.slice (some ⟨z.gt,0,none⟩) z.b.ts.length z.ct,.int .i64 z.b.lot],.int .i64 0,.int .i64 k1]) (by simp[results,Tryz.results57,go_sem,r0,r1,r2,r3,r4,r5]) rfl (.inr ⟨zu TT,z,0,k1,zu IZ,rfl,?_,?_⟩)
    ·exact ow_six (zu OZ) (off_lo (zu LZ) zl) _ _ _ _ _ _
    ·exact six (zu S8).b (by omega) _ _ _ _ _ _
end SPay
namespace WkB12
open BMem Bks Ans SMove SNet
theorem ins_len'(t:Tup8.T8):∀ps:List Tup8.T8,(Trd.insT t ps).length=ps.length+1
 |[]=>rfl
 |p::r=>by
  unfold Trd.insT
  split
  ·rfl
  ·simp[ins_len' t r]
theorem acc_small{b b':Bk}{no kind c:Int}(h:IsAcc b no kind b' c)(s:Small b):Small b':=by
 rcases h with⟨_,rfl,_⟩|⟨_,qs,ok,hp,⟨_,rfl,_⟩|⟨_,rfl,_⟩⟩
 ·exact s
 ·exact s
 ·have:=hp.len
  obtain⟨a,b,c,d,e⟩:=s
  exact⟨by simp;omega,by simp;omega,by simp;omega,by simp;omega,by simp;omega⟩
theorem ins_small{b b':Bk}{no kind c:Int}(h:IsIns b no kind b' c)(s:Small b):Small b':=by
 rcases h with⟨_,rfl,_⟩|⟨_,qs,ok,hp,⟨_,rfl,_⟩|⟨_,rfl,_⟩⟩
 ·exact s
 ·exact s
 ·have:=hp.len
  obtain⟨a,b,c,d,e⟩:=s
  exact⟨by simp;omega,by simp;omega,by simp;omega,by simp;omega,by simp;omega⟩
theorem posted_small{b b':Bk}{ls:List Bals.T3}{c:Int}(h:IsPosted b ls b' c)(s:Small b):Small b':=SIssue.posted_small h s
theorem open_small{b b':Bk}{a i q cost c:Int}(h:IsOpen b a i q cost b' c)(s:Small b):Small b':=by
 rcases h with⟨h,rfl,_⟩|⟨_,rfl,_⟩
 ·have:=h.2.2.2.1
  obtain⟨a,b,c,d,e⟩:=s
  exact⟨a,b,c,by simp;omega,e⟩
 ·exact s
theorem take_small{b b':Bk}{a i q way k c:Int}(h:IsTake b a i q way b' k c)(s:Small b):Small b':=by
 rcases h with⟨h,rfl,_⟩|⟨_,rfl,_⟩
 ·have:=SCarry.taken_len h s
  obtain⟨a,b,c,d,e⟩:=s
  exact⟨a,b,c,by simp;omega,e⟩
 ·exact s
theorem state_small{b:Bk}(k:Nat)(s:Int)(h:Small b):Small {b with ts:=Trd.setState b.ts k s}:=by
 obtain⟨a,b,c,d,e⟩:=h
 exact⟨a,b,c,d,by simp only[Trd.set_len];exact e⟩
theorem settle_small{b b':Bk}{no way g c:Int}(h:Trd.IsSettle b no way b' g c)(s:Small b):Small b':=by
 rcases h with⟨_,rfl,_⟩|⟨k,_,⟨_,rfl,_⟩|⟨_,b1,c1,hp,⟨_,rfl,_⟩|⟨_,b2,k2,c2,ht,⟨_,rfl,_⟩|⟨_,b3,c3,ho,⟨_,rfl,_⟩|⟨_,rfl,_⟩⟩⟩⟩⟩
 ·exact s
 ·exact s
 ·exact s
 ·exact s
 ·exact s
 ·exact state_small k 2 (open_small ho (take_small ht (posted_small hp s)))
theorem issue_small{b b':Bk}{fa fb fi fq fk c:Int}(h:IsIssue b fa fb fi fq fk b' c)(s:Small b):Small b':=by
 rcases h with⟨_,rfl,_⟩|⟨_,_,rfl,_⟩|⟨_,_,b1,c1,hp,⟨_,rfl,_⟩|⟨_,_,rfl,_⟩|⟨_,_,b2,c2,ho,⟨_,rfl,_⟩|⟨_,rfl,_⟩⟩⟩
 ·exact s
 ·exact s
 ·exact s
 ·exact posted_small hp s
 ·exact s
 ·exact open_small ho (posted_small hp s)
theorem move_small{b b':Bk}{fa fb fi fq fk t c:Int}(h:IsMove b fa fb fi fq fk b' t c)(s:Small b):Small b':=by
 rcases h with⟨_,rfl,_⟩|⟨_,_,rfl,_⟩|⟨_,_,b1,c1,hp,⟨_,rfl,_⟩|⟨_,_,rfl,_⟩|⟨_,_,b2,k2,c2,ht,⟨_,rfl,_⟩|⟨_,b3,c3,ho,⟨_,rfl,_⟩|⟨_,rfl,_⟩⟩⟩⟩
 ·exact s
 ·exact s
 ·exact s
 ·exact posted_small hp s
 ·exact s
 ·exact s
 ·exact open_small ho (take_small ht (posted_small hp s))
theorem trade_small{b b':Bk}{no x y p q m pr c:Int}(h:Trd.IsTrade b no x y p q m pr b' c)(s:Small b)(o:Ok b):Small b':=by
 rcases h with⟨_,rfl,_⟩|⟨_,_,rfl,_⟩|⟨_,_,_,rfl,_⟩|⟨_,_,_,_,rfl,_⟩|⟨_,_,_,_,rfl,_⟩
 ·exact s
 ·exact s
 ·exact s
 ·exact s
 ·have l:=o.1.2.2.2.2.1.1
  obtain⟨a,b,c,d,e⟩:=s
  exact⟨a,b,c,d,by simp only[ins_len'];omega⟩
theorem cancel_small{b b':Bk}{no c:Int}(h:Trd.IsCancel b no b' c)(s:Small b):Small b':=by
 rcases h with⟨_,rfl,_⟩|⟨k,_,⟨_,rfl,_⟩|⟨_,rfl,_⟩⟩
 ·exact s
 ·exact s
 ·exact state_small k 3 s
theorem steps_small{way:Int}:∀{nos:List Int} {b:Bk} {acc:Int} {b':Bk} {g c:Int},Net.Steps way nos b acc b' g c→Small b→Small b'
 |[],b,acc,b',g,c,h,s=>by
  obtain⟨rfl,_,_⟩:=h
  exact s
 |no::r,b,acc,b',g,c,h,s=>by
  obtain⟨b1,g1,c1,hs,⟨_,rfl,_⟩|⟨_,h⟩⟩:=h
  ·exact s
  ·exact steps_small h (settle_small hs s)
theorem net_small{b b':Bk}{lo hi fk t c:Int}{ls:List Bals.T3}(h:Net.IsNet b lo hi fk b' ls t c)(s:Small b):Small b':=by
 rcases h with⟨_,rfl,_⟩|⟨_,b2,g,c2,hs,⟨_,rfl,_⟩|⟨_,qs,ok,_,⟨_,rfl,_⟩|⟨_,rfl,_⟩⟩⟩
 ·exact s
 ·exact s
 ·exact s
 ·exact steps_small hs s
theorem fx_small{b b':Bk}{x y f t am n d g c:Int}(h:Corp.IsFx b x y f t am n d b' g c)(s:Small b):Small b':=by
 rcases h with⟨_,rfl,_⟩|⟨_,_,rfl,_⟩|⟨_,_,q,r,ok,_,⟨_,rfl,_⟩|⟨_,b1,c1,hp,⟨_,rfl,_⟩|⟨_,rfl,_⟩⟩⟩
 ·exact s
 ·exact s
 ·exact s
 ·exact s
 ·exact SIssue.posted_small hp s
theorem sc_small{i:Int}:∀{r:List (Int×Int)} {ls l1:List Tup5.T5} {c:Int},Split.ScAll i r ls l1 c→ls.length≤1048576→l1.length≤1048576
 |[],ls,l1,c,h,s=>by rw[h.1];exact s
 |p::r,ls,l1,c,⟨x,d,h,h'⟩,s=>by
  have sx:x.length≤1048576:=by
   obtain⟨R,ss,okS,bad,short,full,s1,s2,s3,s4,hR,hl1,hdd⟩:=h
   have:=SSplitB.scaled_len (short:=short) (full:=full) s1 hR
   rw[hl1];omega
  rcases h' with⟨_,rfl,_⟩|⟨_,h'⟩
  ·exact sx
  ·exact sc_small h' sx
theorem split_small{b b':Bk}{p n d y g c:Int}(h:Split.IsSplit b p n d y b' g c)(s:Small b):Small b':=by
 rcases h with⟨_,rfl,_⟩|⟨_,_,rfl,_⟩|⟨_,_,w1,w2,hv,ok,_,⟨_,rfl,_⟩|⟨_,_,rfl,_⟩|⟨_,_,q,r,f,_,⟨_,rfl,_⟩|⟨_,ps,_,b1,c1,hp,⟨_,rfl,_⟩|⟨_,ls,c2,hc,⟨_,rfl,_⟩|⟨_,rfl,_⟩⟩⟩⟩⟩
 all_goals try exact s
 have s1:=SIssue.posted_small hp s
 exact⟨s1.1,s1.2.1,s1.2.2.1,sc_small hc s1.2.2.2.1,s1.2.2.2.2⟩
theorem pay_small{b b':Bk}{p q y t n c:Int}(h:Pay.IsPay b p q y t b' n c)(s:Small b):Small b':=by
 rcases h with⟨_,rfl,_⟩|⟨_,_,rfl,_⟩|⟨_,_,w1,w2,al,ok,_,⟨_,rfl,_⟩|⟨_,_,rfl,_⟩|⟨_,_,ps,_,b1,c1,hp,⟨_,rfl,_⟩|⟨_,rfl,_⟩⟩⟩
 ·exact s
 ·exact s
 ·exact s
 ·exact s
 ·exact s
 ·exact SIssue.posted_small hp s
def ofB(z:Bx):BHelp.Ix:=⟨some ⟨z.ga,0,none⟩,z.ca,some ⟨z.gi,0,none⟩,z.ci,some ⟨z.gb,0,none⟩,z.cb,some ⟨z.gl,0,none⟩,z.cl,some ⟨z.gt,0,none⟩,z.ct,z.b⟩
def zeroB:BHelp.Ix:=⟨none,0,none,0,none,0,none,0,none,0,⟨[],[],[],[],[],0⟩⟩
def Wk(w w':World)(c:Int)(y:BHelp.Ix):Prop:=
 Below w.heap.size w w'∧(c=1∨∃z:Bx,y=ofB z∧Ow w' w.heap.size z∧Small z.b)
theorem wk_B{told:Prop}{P:Bk→Int→Prop}{w w':World}{e:Ending}(h:AnsB told P w e w')(sm:∀b c,told→P b c→Small b):
  ∃y c,e= .returned (.tuple #[.agg #[.slice y.aa y.b.ac.length y.ca,.slice y.ai y.b.ic.length y.ci,.slice y.ab y.b.bs.length y.cb,.slice y.al y.b.ls.length y.cl,.slice y.ats y.b.ts.length y.ct,.int .i64 y.b.lot],.int .i64 c])∧Wk w w' c y:=by
 rcases h with⟨_,rfl,bb⟩|⟨t,z,c,hp,rfl,ho,bb⟩
 ·exact⟨zeroB,1,rfl,bb,.inl rfl⟩
 ·exact⟨ofB z,c,rfl,bb,.inr ⟨z,rfl,ho,sm _ _ t hp⟩⟩
theorem wk_M{told:Prop}{P:Bk→Int→Int→Prop}{w w':World}{e:Ending}(h:AnsM told P w e w')(sm:∀b t c,told→P b t c→Small b):
  ∃y t c,e= .returned (.tuple #[.agg #[.slice y.aa y.b.ac.length y.ca,.slice y.ai y.b.ic.length y.ci,.slice y.ab y.b.bs.length y.cb,.slice y.al y.b.ls.length y.cl,.slice y.ats y.b.ts.length y.ct,.int .i64 y.b.lot],.int .i64 t,.int .i64 c])∧Wk w w' c y:=by
 rcases h with⟨_,rfl,bb⟩|⟨t,z,x,c,hp,rfl,ho,bb⟩
 ·exact⟨zeroB,0,1,rfl,bb,.inl rfl⟩
 ·exact⟨ofB z,x,c,rfl,bb,.inr ⟨z,rfl,ho,sm _ _ _ t hp⟩⟩
theorem wk_N{told:Prop}{P:Bk→List Bals.T3→Int→Int→Prop}{w w':World}{e:Ending}(h:AnsN told P w e w')(sm:∀b l t c,told→P b l t c→Small b):
  ∃y l t c,e= .returned (.tuple #[.agg #[.slice y.aa y.b.ac.length y.ca,.slice y.ai y.b.ic.length y.ci,.slice y.ab y.b.bs.length y.cb,.slice y.al y.b.ls.length y.cl,.slice y.ats y.b.ts.length y.ct,.int .i64 y.b.lot],l,.int .i64 t,.int .i64 c])∧Wk w w' c y:=by
 rcases h with⟨_,g,k,rfl,_,bb⟩|⟨t,z,l,x,c,g,k,hp,_,rfl,ho,_,bb⟩
 ·exact⟨zeroB,_,0,1,rfl,bb,.inl rfl⟩
 ·exact⟨ofB z,_,x,c,rfl,bb,.inr ⟨z,rfl,ho,sm _ _ _ _ t hp⟩⟩
theorem wAccount(w:World)(x:Bx)(y0 y1:Int)(hr:Rd w x):
  Calls Tryz.prog 47 #[.agg #[.slice (some ⟨x.ga,0,none⟩) x.b.ac.length x.ca,.slice (some ⟨x.gi,0,none⟩) x.b.ic.length x.ci,.slice (some ⟨x.gb,0,none⟩) x.b.bs.length x.cb,.slice (some ⟨x.gl,0,none⟩) x.b.ls.length x.cl,.slice (some ⟨x.gt,0,none⟩) x.b.ts.length x.ct,.int .i64 x.b.lot],.int .i64 y0,.int .i64 y1] w fun e w'=>∃y c,e= .returned (.tuple #[.agg #[.slice y.aa y.b.ac.length y.ca,.slice y.ai y.b.ic.length y.ci,.slice y.ab y.b.bs.length y.cb,.slice y.al y.b.ls.length y.cl,.slice y.ats y.b.ts.length y.ct,.int .i64 y.b.lot],.int .i64 c])∧Wk w w' c y:=
 (SAccountTell.sTell w x y0 y1 hr).mono (fun e w' h=>wk_B h (fun b c t p=>acc_small p (ok_small t.1)))
theorem wInstr(w:World)(x:Bx)(y0 y1:Int)(hr:Rd w x):
  Calls Tryz.prog 48 #[.agg #[.slice (some ⟨x.ga,0,none⟩) x.b.ac.length x.ca,.slice (some ⟨x.gi,0,none⟩) x.b.ic.length x.ci,.slice (some ⟨x.gb,0,none⟩) x.b.bs.length x.cb,.slice (some ⟨x.gl,0,none⟩) x.b.ls.length x.cl,.slice (some ⟨x.gt,0,none⟩) x.b.ts.length x.ct,.int .i64 x.b.lot],.int .i64 y0,.int .i64 y1] w fun e w'=>∃y c,e= .returned (.tuple #[.agg #[.slice y.aa y.b.ac.length y.ca,.slice y.ai y.b.ic.length y.ci,.slice y.ab y.b.bs.length y.cb,.slice y.al y.b.ls.length y.cl,.slice y.ats y.b.ts.length y.ct,.int .i64 y.b.lot],.int .i64 c])∧Wk w w' c y:=
 (SInstrTell.sTell w x y0 y1 hr).mono (fun e w' h=>wk_B h (fun b c t p=>ins_small p (ok_small t.1)))
theorem wIssue(w:World)(x:Bx)(y0 y1 y2 y3 y4:Int)(hr:Rd w x):
  Calls Tryz.prog 49 #[.agg #[.slice (some ⟨x.ga,0,none⟩) x.b.ac.length x.ca,.slice (some ⟨x.gi,0,none⟩) x.b.ic.length x.ci,.slice (some ⟨x.gb,0,none⟩) x.b.bs.length x.cb,.slice (some ⟨x.gl,0,none⟩) x.b.ls.length x.cl,.slice (some ⟨x.gt,0,none⟩) x.b.ts.length x.ct,.int .i64 x.b.lot],.int .i64 y0,.int .i64 y1,.int .i64 y2,.int .i64 y3,.int .i64 y4] w fun e w'=>∃y c,e= .returned (.tuple #[.agg #[.slice y.aa y.b.ac.length y.ca,.slice y.ai y.b.ic.length y.ci,.slice y.ab y.b.bs.length y.cb,.slice y.al y.b.ls.length y.cl,.slice y.ats y.b.ts.length y.ct,.int .i64 y.b.lot],.int .i64 c])∧Wk w w' c y:=
 (SIssue.sIssue w x y0 y1 y2 y3 y4 hr).mono (fun e w' h=>wk_B h (fun b c t p=>issue_small p (ok_small t.1)))
theorem wMove(w:World)(x:Bx)(y0 y1 y2 y3 y4:Int)(hr:Rd w x):
  Calls Tryz.prog 50 #[.agg #[.slice (some ⟨x.ga,0,none⟩) x.b.ac.length x.ca,.slice (some ⟨x.gi,0,none⟩) x.b.ic.length x.ci,.slice (some ⟨x.gb,0,none⟩) x.b.bs.length x.cb,.slice (some ⟨x.gl,0,none⟩) x.b.ls.length x.cl,.slice (some ⟨x.gt,0,none⟩) x.b.ts.length x.ct,.int .i64 x.b.lot],.int .i64 y0,.int .i64 y1,.int .i64 y2,.int .i64 y3,.int .i64 y4] w fun e w'=>∃y t c,e= .returned (.tuple #[.agg #[.slice y.aa y.b.ac.length y.ca,.slice y.ai y.b.ic.length y.ci,.slice y.ab y.b.bs.length y.cb,.slice y.al y.b.ls.length y.cl,.slice y.ats y.b.ts.length y.ct,.int .i64 y.b.lot],.int .i64 t,.int .i64 c])∧Wk w w' c y:=
 (SMove.sMove w x y0 y1 y2 y3 y4 hr).mono (fun e w' h=>wk_M h (fun b x c t p=>move_small p (ok_small t.1)))
theorem wTrade(w:World)(x:Bx)(y0 y1 y2 y3 y4 y5 y6:Int)(hr:Rd w x):
  Calls Tryz.prog 51 #[.agg #[.slice (some ⟨x.ga,0,none⟩) x.b.ac.length x.ca,.slice (some ⟨x.gi,0,none⟩) x.b.ic.length x.ci,.slice (some ⟨x.gb,0,none⟩) x.b.bs.length x.cb,.slice (some ⟨x.gl,0,none⟩) x.b.ls.length x.cl,.slice (some ⟨x.gt,0,none⟩) x.b.ts.length x.ct,.int .i64 x.b.lot],.int .i64 y0,.int .i64 y1,.int .i64 y2,.int .i64 y3,.int .i64 y4,.int .i64 y5,.int .i64 y6] w fun e w'=>∃y c,e= .returned (.tuple #[.agg #[.slice y.aa y.b.ac.length y.ca,.slice y.ai y.b.ic.length y.ci,.slice y.ab y.b.bs.length y.cb,.slice y.al y.b.ls.length y.cl,.slice y.ats y.b.ts.length y.ct,.int .i64 y.b.lot],.int .i64 c])∧Wk w w' c y:=
 (STrade.sTrade w x y0 y1 y2 y3 y4 y5 y6 hr).mono (fun e w' h=>wk_B h (fun b c t p=>trade_small p (ok_small t.1) t.1))
theorem wCancel(w:World)(x:Bx)(y0:Int)(hr:Rd w x):
  Calls Tryz.prog 52 #[.agg #[.slice (some ⟨x.ga,0,none⟩) x.b.ac.length x.ca,.slice (some ⟨x.gi,0,none⟩) x.b.ic.length x.ci,.slice (some ⟨x.gb,0,none⟩) x.b.bs.length x.cb,.slice (some ⟨x.gl,0,none⟩) x.b.ls.length x.cl,.slice (some ⟨x.gt,0,none⟩) x.b.ts.length x.ct,.int .i64 x.b.lot],.int .i64 y0] w fun e w'=>∃y c,e= .returned (.tuple #[.agg #[.slice y.aa y.b.ac.length y.ca,.slice y.ai y.b.ic.length y.ci,.slice y.ab y.b.bs.length y.cb,.slice y.al y.b.ls.length y.cl,.slice y.ats y.b.ts.length y.ct,.int .i64 y.b.lot],.int .i64 c])∧Wk w w' c y:=
 (SCancel.sCancel w x y0 hr).mono (fun e w' h=>wk_B h (fun b c t p=>cancel_small p (ok_small t.1)))
theorem wSettle(w:World)(x:Bx)(y0 y1:Int)(hr:Rd w x):
  Calls Tryz.prog 53 #[.agg #[.slice (some ⟨x.ga,0,none⟩) x.b.ac.length x.ca,.slice (some ⟨x.gi,0,none⟩) x.b.ic.length x.ci,.slice (some ⟨x.gb,0,none⟩) x.b.bs.length x.cb,.slice (some ⟨x.gl,0,none⟩) x.b.ls.length x.cl,.slice (some ⟨x.gt,0,none⟩) x.b.ts.length x.ct,.int .i64 x.b.lot],.int .i64 y0,.int .i64 y1] w fun e w'=>∃y t c,e= .returned (.tuple #[.agg #[.slice y.aa y.b.ac.length y.ca,.slice y.ai y.b.ic.length y.ci,.slice y.ab y.b.bs.length y.cb,.slice y.al y.b.ls.length y.cl,.slice y.ats y.b.ts.length y.ct,.int .i64 y.b.lot],.int .i64 t,.int .i64 c])∧Wk w w' c y:=
 (SSettle.sSettle w x y0 y1 hr).mono (fun e w' h=>wk_M h (fun b x c t p=>settle_small p (ok_small t.1)))
theorem wNet(w:World)(x:Bx)(y0 y1 y2:Int)(hr:Rd w x):
  Calls Tryz.prog 54 #[.agg #[.slice (some ⟨x.ga,0,none⟩) x.b.ac.length x.ca,.slice (some ⟨x.gi,0,none⟩) x.b.ic.length x.ci,.slice (some ⟨x.gb,0,none⟩) x.b.bs.length x.cb,.slice (some ⟨x.gl,0,none⟩) x.b.ls.length x.cl,.slice (some ⟨x.gt,0,none⟩) x.b.ts.length x.ct,.int .i64 x.b.lot],.int .i64 y0,.int .i64 y1,.int .i64 y2] w fun e w'=>∃y l t c,e= .returned (.tuple #[.agg #[.slice y.aa y.b.ac.length y.ca,.slice y.ai y.b.ic.length y.ci,.slice y.ab y.b.bs.length y.cb,.slice y.al y.b.ls.length y.cl,.slice y.ats y.b.ts.length y.ct,.int .i64 y.b.lot],l,.int .i64 t,.int .i64 c])∧Wk w w' c y:=
 (SNet.sNet w x y0 y1 y2 hr).mono (fun e w' h=>wk_N h (fun b l x c t p=>net_small p (ok_small t.1)))
theorem wFx(w:World)(x:Bx)(y0 y1 y2 y3 y4 y5 y6:Int)(hr:Rd w x):
  Calls Tryz.prog 55 #[.agg #[.slice (some ⟨x.ga,0,none⟩) x.b.ac.length x.ca,.slice (some ⟨x.gi,0,none⟩) x.b.ic.length x.ci,.slice (some ⟨x.gb,0,none⟩) x.b.bs.length x.cb,.slice (some ⟨x.gl,0,none⟩) x.b.ls.length x.cl,.slice (some ⟨x.gt,0,none⟩) x.b.ts.length x.ct,.int .i64 x.b.lot],.int .i64 y0,.int .i64 y1,.int .i64 y2,.int .i64 y3,.int .i64 y4,.int .i64 y5,.int .i64 y6] w fun e w'=>∃y t c,e= .returned (.tuple #[.agg #[.slice y.aa y.b.ac.length y.ca,.slice y.ai y.b.ic.length y.ci,.slice y.ab y.b.bs.length y.cb,.slice y.al y.b.ls.length y.cl,.slice y.ats y.b.ts.length y.ct,.int .i64 y.b.lot],.int .i64 t,.int .i64 c])∧Wk w w' c y:=
 (SFx.sFx w x y0 y1 y2 y3 y4 y5 y6 hr).mono (fun e w' h=>wk_M h (fun b x c t p=>fx_small p (ok_small t.1)))
theorem wSplit(w:World)(x:Bx)(y0 y1 y2 y3:Int)(hr:Rd w x):
  Calls Tryz.prog 56 #[.agg #[.slice (some ⟨x.ga,0,none⟩) x.b.ac.length x.ca,.slice (some ⟨x.gi,0,none⟩) x.b.ic.length x.ci,.slice (some ⟨x.gb,0,none⟩) x.b.bs.length x.cb,.slice (some ⟨x.gl,0,none⟩) x.b.ls.length x.cl,.slice (some ⟨x.gt,0,none⟩) x.b.ts.length x.ct,.int .i64 x.b.lot],.int .i64 y0,.int .i64 y1,.int .i64 y2,.int .i64 y3] w fun e w'=>∃y t c,e= .returned (.tuple #[.agg #[.slice y.aa y.b.ac.length y.ca,.slice y.ai y.b.ic.length y.ci,.slice y.ab y.b.bs.length y.cb,.slice y.al y.b.ls.length y.cl,.slice y.ats y.b.ts.length y.ct,.int .i64 y.b.lot],.int .i64 t,.int .i64 c])∧Wk w w' c y:=
 (SSplitB.sSplit w x y0 y1 y2 y3 hr).mono (fun e w' h=>wk_M h (fun b x c t p=>split_small p (ok_small t.1)))
theorem wPay(w:World)(x:Bx)(y0 y1 y2 y3:Int)(hr:Rd w x):
  Calls Tryz.prog 57 #[.agg #[.slice (some ⟨x.ga,0,none⟩) x.b.ac.length x.ca,.slice (some ⟨x.gi,0,none⟩) x.b.ic.length x.ci,.slice (some ⟨x.gb,0,none⟩) x.b.bs.length x.cb,.slice (some ⟨x.gl,0,none⟩) x.b.ls.length x.cl,.slice (some ⟨x.gt,0,none⟩) x.b.ts.length x.ct,.int .i64 x.b.lot],.int .i64 y0,.int .i64 y1,.int .i64 y2,.int .i64 y3] w fun e w'=>∃y t c,e= .returned (.tuple #[.agg #[.slice y.aa y.b.ac.length y.ca,.slice y.ai y.b.ic.length y.ci,.slice y.ab y.b.bs.length y.cb,.slice y.al y.b.ls.length y.cl,.slice y.ats y.b.ts.length y.ct,.int .i64 y.b.lot],.int .i64 t,.int .i64 c])∧Wk w w' c y:=
 (SPay.sPay w x y0 y1 y2 y3 hr).mono (fun e w' h=>wk_M h (fun b x c t p=>pay_small p (ok_small t.1)))
end WkB12
end Go.Proofs.YtcjgepkdpkhljaaGreat
