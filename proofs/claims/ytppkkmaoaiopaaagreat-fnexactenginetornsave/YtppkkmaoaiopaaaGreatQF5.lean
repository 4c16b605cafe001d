/- Lemmas. -/
import Derived.Test.YtppkkmaoaiopaaaGreatQF4
import Derived.Maps.AppendAt
open Go.ChangeShapes Go.WideShapes Go.ChangeAt Go.RowKit
set_option linter.unusedVariables false
set_option linter.unusedSimpArgs false
set_option maxRecDepth 100000
set_option maxHeartbeats 32000000
namespace Go.Proofs.YtppkkmaoaiopaaaGreat
namespace SPut11
open SBytes
open ByteH (Own At)
theorem own_of_row{w:World}{base n n':Nat}{v:Value}{vs:List Value}{xs:List Int}(h:w.ownsRow base 5 1 v n vs)(hn:n=n')(e:vs=xs.map (Value.int .u8))(hv:¬v= .slice none 0 0):
  ∃g c,v= .slice (some ⟨g,0,none⟩) n' c∧Own w base g n' c xs:=by
 subst hn e
 have h':=h
 rcases h.2 with⟨h1,_⟩|⟨g,c,cur,rfl,_⟩
 ·exact absurd h1 hv
 ·exact⟨g,c,rfl,h'⟩
theorem own_alloc{w:World}{base g n cap:Nat}{xs:List Int}(h:Own w base g n cap xs)(o:Obj):Own (w.alloc o) base g n cap xs:=World.ownsRow.alloc h o
theorem lit0(w:World)(base:Nat){g:Nat}(hb:base≤w.heap.size)(hg:g=w.heap.size):Own (w.alloc (.cells #[] 5)) base g 0 0 []:=by
 subst hg
 exact World.ownsRow_lit w #[] 0 hb (by decide) rfl
def AtO(w:World)(g o:Nat)(xs:List Int):Prop:=∀i,i<xs.length→w.cell? ⟨g,o+i,none⟩=some (.int .u8 (xs.getD i 0))
theorem AtO.of{w:World}{g:Nat}{xs:List Int}(h:At w g xs):AtO w g 0 xs:=fun i hi=>by rw[Nat.zero_add];exact h i hi
theorem wp_catB(u:World){ops:Array Oper}{rest:List Oper}{o:Oper}{a:Act}{Q:Exit→Act→World→Prop}(hgd:o.guard=none)(s x:Operand)
  (ho:o.op= .call {callee:= .builtin .append,args:= #[s,x],argTypes:= #[142,142]})(base g n cap m:Nat)(xs ys:List Int)(vb off c:Nat)
  (hs:a.eval s= .slice (some ⟨g,0,none⟩) n cap)(hx:a.eval x= .slice (some ⟨vb,off,none⟩) m c)(hown:Own u base g n cap xs)(hl:ys.length=m)(hv:AtO u vb off ys)(hn:n+m≤9223372036854)(hb:base≤u.heap.size)
  (h:∀g' c' w',Own w' base g' (n+m) c' (xs++ys)→u.grownBy w' (some g)→(g'=g∨g'=u.heap.size)→wpList Tryz.prog ops Q rest (a.put o.dst (.slice (some ⟨g',0,none⟩) (n+m) c')) w'):wpList Tryz.prog ops Q (o::rest) a u:=by
 obtain⟨i0,hi,hz0,hz1,hz2⟩:=info_parts ByteH.info8
 refine wpList_append_own_at u hgd s x 142 ho base 5 i0 (.int .u8 0) 1 1 Tryz.underlying142 hi hz0 hz1 hz2 rfl (by decide) _ n _ hs hown ⟨vb,off,none⟩ m c (ys.map (Value.int .u8)) hx (by simp[hl]) (fun j v hj=>by
  have hj':j<ys.length:=by
   have:=(List.getElem?_eq_some_iff.1 hj).1
   simpa using this
  have:=hv j hj'
  rw[Addr.add_lit,this]
  rw[←hj]
  simp[List.getD,hj']) (by intro u hu;obtain⟨y,_,rfl⟩:=List.mem_map.1 hu;simp[Value.oneCell']) (by unfold maxLen;omega) (by omega) hb ?_
 intro v' w' own' gr' nil' loc'
 obtain⟨g',c',rfl,o'⟩:=own_of_row (n':=n+m) (xs:=xs++ys) own' rfl (by simp) (by rw[nil'];simp)
 exact h g' c' w' o' gr' (by simpa[Value.ownBlock] using loc')
theorem lit_one(w:World)(y:Int):AtO (w.alloc (.cells #[.int .u8 y] 5)) w.heap.size 0 [y]:=by
 intro i hi
 have:i=0:=by simpa using hi
 subst this
 simp
def numF(x:Nat):List Int:=if 127<x then((x%128+128:Nat):Int)::numF (x/128) else[(x:Int)]
termination_by x
theorem numF_more{x:Nat}(h:127<x):numF x=((x%128+128:Nat):Int)::numF (x/128):=by rw[numF,if_pos h]
theorem numF_last{x:Nat}(h:¬127<x):numF x=[(x:Int)]:=by rw[numF,if_neg h]
theorem numF_len(n:Nat):∀x:Nat,x<128^(n+1)→(numF x).length≤n+1:=by
 induction n with
 |zero=>intro x h;rw[numF_last (by omega)];simp
 |succ n ih=>
  intro x h
  by_cases t:127<x
  ·rw[numF_more t]
   have:=ih (x/128) (by rw[Nat.pow_succ] at h;omega)
   simp
   omega
  ·rw[numF_last t];simp
theorem numF_in(n:Nat):∀x:Nat,x<128^(n+1)→∀y∈numF x,0≤y∧y≤255:=by
 induction n with
 |zero=>
  intro x h y hy
  rw[numF_last (by omega)] at hy
  simp at hy
  omega
 |succ n ih=>
  intro x h y hy
  by_cases t:127<x
  ·rw[numF_more t] at hy
   rcases List.mem_cons.1 hy with rfl|hy
   ·omega
   ·exact ih (x/128) (by rw[Nat.pow_succ] at h;omega) y hy
  ·rw[numF_last t] at hy
   simp at hy
   omega
def numB(x:Int):List Int:=if x<0 then[] else numF x.toNat
theorem numF_nine{x:Nat}(h:x≤9223372036854775807):(numF x).length≤9:=numF_len 8 x (by omega)
theorem numB_nine{x:Int}(h:x≤9223372036854775807):(numB x).length≤9:=by
 unfold numB
 split
 ·simp
 ·exact numF_nine (by omega)
theorem one_more(w:World)(o:Obj):Below w.heap.size w (w.alloc o):=(Below.refl _ _).alloc (Nat.le_refl _) _
theorem sPutNum(w:World)(x0:Int)(hx:x0≤9223372036854775807):
  Calls Tryz.prog 97 #[.int .i64 x0] w fun e w'=>∃g c,e= .returned (.slice (some ⟨g,0,none⟩) (numB x0).length c)∧Own w' w.heap.size g (numB x0).length c (numB x0)∧Below w.heap.size w w':=by
 have O0:=zh (lit0 w w.heap.size (Nat.le_refl _) rfl)
 have B0:=zh (one_more w (.cells #[] 5))
 by_cases h0:x0<0
 ·have e:numB x0=[]:=if_pos h0
  rw[e]
  clear e hx
  go_enter Tryz.func97,Tryz.ntmps97
  go_wp2
  go_ret
  exact⟨w.heap.size,0,rfl,zu O0,zu B0⟩
 have e:numB x0=numF x0.toNat:=if_neg h0
 rw[e]
 have L:=zh (numF_nine (x:=x0.toNat) (by omega))
 clear e
 obtain⟨r,hr⟩:∃r,Hid (numF x0.toNat=r):=⟨_,rfl⟩
 rw[zu hr] at L⊢
 have h1:0≤x0:=by omega
 have S0:=zh (show([]:List Int)++numF x0.toNat=r from zu hr)
 clear hr h0
 go_enter Tryz.func97,Tryz.ntmps97
 go_wp2
 go_loopw [0,3] (fun a l wr=>∃(x:Int) (p:List Int) (g c:Nat),a= .int .i64 x∧l= .slice (some ⟨g,0,none⟩) p.length c∧0≤x∧x≤9223372036854775807∧Hid (p++numF x.toNat=r)∧Hid (Own wr w.heap.size g p.length c p)∧Hid (Below w.heap.size w wr)) (fun a _ _=>(intOf a).toNat)
 case atStart=>exact⟨x0,[],w.heap.size,0,rfl,rfl,h1,hx,S0,O0,B0⟩
 case round=>
  clear O0 B0 S0 hx h1
  obtain⟨x,p,g,c,rfl,rfl,x1,x2,HR,HO,HB⟩:=hrel
  have bs:=(zu HB).size
  have pl:p.length≤9:=by have a:=zu L;rw[←zu HR] at a;simp at a;omega
  have og:=(zu HO).lt
  have HX:=zh (And.intro x1 x2)
  by_cases t:127<x
  ·have N:=zh (show(p++[x%128+128])++numF (x/128).toNat=r from by
    rw[←zu HR,numF_more (x:=x.toNat) (by omega),List.append_assoc]
    have e1:((x.toNat%128+128:Nat):Int)=x%128+128:=by omega
    have e2:x.toNat/128=(x/128).toNat:=by omega
    rw[e1,e2];rfl)
   have E:=zh (show wrap64 (x.tdiv 128)=x/128 from by rw[Int.tdiv_eq_ediv_of_nonneg x1,wrap64];omega)
   clear HR x1 x2
   go_wp2_with (first|(at_builtin;refine wp_catB _ rfl _ _ rfl w.heap.size g p.length c 1 p [x%128+128] wr.heap.size 0 1 rfl rfl (own_alloc (zu HO) _) rfl (lit_one _ _) (by omega) (by simp;omega) ?_)|go_in)
   intro g5 c5 w5 o5 gr5 loc5
   have O5:=zh o5
   have B5:=zh (((zu HB).alloc (by omega) (.cells #[.int .u8 (x%128+128)] 5)).grown gr5 (by simp;omega) (fun j hj=>by cases hj;exact og.1))
   clear o5 gr5 loc5
   go_wp2
   go_roundw
   case rel=>
    have xx:=zu HX
    exact⟨x/128,p++[x%128+128],g5,c5,congrArg (Value.int .i64) (zu E),by rw[show(p++[x%128+128]).length=p.length+1 by simp],by omega,by omega,N,zh (by rw[show(p++[x%128+128]).length=p.length+1 by simp];exact zu O5),B5⟩
   case measure=>
    have xx:=zu HX
    have e:=zu E
    simp[intOf,e]
    omega
  ·have N:=zh (show p++[x]=r from by
    rw[←zu HR,numF_last (x:=x.toNat) (by omega)]
    have e1:((x.toNat:Nat):Int)=x:=by omega
    rw[e1])
   clear HR
   go_wp2_with (first|(at_builtin;refine wp_catB _ rfl _ _ rfl w.heap.size g p.length c 1 p [x] wr.heap.size 0 1 rfl rfl (own_alloc (zu HO) _) rfl (lit_one _ _) (by omega) (by simp;omega) ?_)|go_in)
   intro g5 c5 w5 o5 gr5 loc5
   have O5:=zh o5
   have B5:=zh (((zu HB).alloc (by omega) (.cells #[.int .u8 x] 5)).grown gr5 (by simp;omega) (fun j hj=>by cases hj;exact og.1))
   clear o5 gr5 loc5
   go_wp2
   go_ret
   have e:=zu N
   have e1:r.length=p.length+1:=by rw[←e];simp
   exact⟨g5,c5,by rw[e1];rfl,by rw[e1,←e];exact zu O5,zu B5⟩
end SPut11
namespace SPuts11
open SBytes SPut11
open ByteH (Own At)
def numsB(xs:List Int):List Int:=if ∀i,i<xs.length→0≤xs.getD i 0 then xs.flatMap numB else[]
theorem flat_next{xs:List Int}{k:Nat}(h:k<xs.length):(xs.take (k+1)).flatMap numB=(xs.take k).flatMap numB++numB (xs.getD k 0):=by
 rw[List.take_succ_eq_append_getElem h,List.flatMap_append]
 simp[List.getD,h]
theorem flat_len(xs:List Int)(h:∀i,i<xs.length→xs.getD i 0≤9223372036854775807)(k:Nat)(hk:k≤xs.length):((xs.take k).flatMap numB).length≤9*k:=by
 induction k with
 |zero=>simp
 |succ k ih=>
  rw[flat_next (by omega),List.length_append]
  have a:=ih (by omega)
  have b:=numB_nine (h k (by omega))
  omega
theorem numB_pos{x:Int}(h:0≤x):numB x=numF x.toNat:=if_neg (by omega)
theorem sPutNums(w:World)(gl cl:Nat)(xs:List Int)(h20:xs.length≤1048576)(hg:gl<w.heap.size)(hr:Ints.At w gl xs)(hi:∀i,i<xs.length→xs.getD i 0≤9223372036854775807):
  Calls Tryz.prog 134 #[.slice (some ⟨gl,0,none⟩) xs.length cl] w fun e w'=>∃g c,e= .returned (.slice (some ⟨g,0,none⟩) (numsB xs).length c)∧Own w' w.heap.size g (numsB xs).length c (numsB xs)∧Below w.heap.size w w':=by
 have O0:=zh (lit0 w w.heap.size (Nat.le_refl _) rfl)
 have B0:=zh (one_more w (.cells #[] 5))
 have R:=zh hr
 have HI:=zh hi
 have HG:=zh hg
 obtain⟨r,hq⟩:∃r,Hid (numsB xs=r):=⟨_,rfl⟩
 rw[zu hq]
 clear hr hi hg
 go_enter Tryz.func134,Tryz.ntmps134
 go_wp2
 go_loopw [3,4] (fun l a wr=>∃(k g c n:Nat),a= .int .i64 k∧k≤xs.length∧l= .slice (some ⟨g,0,none⟩) n c∧n≤9*k∧Hid (n=((xs.take k).flatMap numB).length)∧Hid (∀i,i<k→0≤xs.getD i 0)∧Hid (Own wr w.heap.size g n c ((xs.take k).flatMap numB))∧Hid (Below w.heap.size w wr)) (fun _ a _=>xs.length-(intOf a).toNat)
 case atStart=>exact⟨0,w.heap.size,0,0,rfl,by omega,rfl,by omega,zh (by simp),zh (fun i h=>absurd h (by omega)),zh (by simpa using zu O0),B0⟩
 case round=>
  clear O0 B0
  obtain⟨k,g,c,n,rfl,hk,rfl,nk,HN,HP,HO,HB⟩:=hrel
  have bs:=(zu HB).size
  have og:=(zu HO).lt
  by_cases t:k<xs.length
  ·have d:=(((zu R).below (zu HB) (zu HG)) k t)
   have NX:=zh (flat_next t)
   have HX:=zh ((zu HI) k t)
   have SG:=zh (show 0≤xs.getD k 0→∀i,i<k+1→0≤xs.getD i 0 from fun h i hi=>by
    by_cases e:i=k
    ·subst e;exact h
    ·exact(zu HP) i (by omega))
   have BAD:=zh (show xs.getD k 0<0→r=[] from fun h=>by rw[←zu hq];exact if_neg (fun a=>by have:=a k t;omega))
   clear HP
   generalize xs.getD k 0=y at *
   have kx:(k:Int)<xs.length:=by omega
   by_cases y0:y<0
   ·have e:=(zu BAD) y0
    subst e
    have O5:=zh (lit0 wr w.heap.size bs rfl)
    have B5:=zh ((zu HB).alloc bs (.cells #[] 5))
    clear BAD SG NX HX hq HI R
    go_wp2
    go_ret
    exact⟨_,0,rfl,zu O5,zu B5⟩
   ·have S1:=zh ((zu SG) (by omega))
    have nine:=numB_nine (zu HX)
    have xl:=zu HX
    clear BAD SG
    go_wp2_with fail
    refine(sPutNum _ y xl).mono ?_
    rintro e u ⟨g1,c1,rfl,o1,b1⟩
    have O1:=zh o1
    have B1:=zh ((zu HB).trans (b1.mono bs))
    have HO1:=zh ((zu HO).below b1 og.2)
    have us:=b1.size
    clear o1 b1
    go_wp2_with (first|(at_builtin;refine wp_catB _ rfl _ _ rfl w.heap.size g n c (numB y).length _ (numB y) g1 0 c1 rfl rfl (zu HO1) rfl (AtO.of (zu O1).at) (by omega) (by omega) ?_)|go_in)
    intro g5 c5 w5 o5 gr5 loc5
    have O5:=zh o5
    have B5:=zh ((zu B1).grown gr5 (by omega) (fun j hj=>by cases hj;exact og.1))
    clear o5 gr5 loc5
    go_wp2
    go_roundw
    case rel=>exact⟨k+1,g5,c5,n+(numB y).length,by go_num,by omega,rfl,by omega,zh (by rw[zu NX,List.length_append,←zu HN]),S1,zh (by rw[zu NX];exact zu O5),B5⟩
    case measure=>simp[intOf];omega
  ·have e:k=xs.length:=by omega
   subst e
   have E:=zh (show xs.flatMap numB=r from by rw[←zu hq];exact(if_pos (zu HP)).symm)
   have N:=zu HN
   have O:=zu HO
   rw[List.take_length] at N O
   rw[zu E] at N O
   have O5:=zh O
   have N5:=zh N
   clear N O HN HO HP
   go_wp2
   go_ret
   have e:=zu N5
   subst e
   exact⟨g,c,rfl,zu O5,zu HB⟩
theorem own_of_rowI{w:World}{base n n':Nat}{v:Value}{vs:List Value}{xs:List Int}(h:w.ownsRow base 3 1 v n vs)(hn:n=n')(e:vs=xs.map (Value.int .i64))(hv:¬v= .slice none 0 0):
  ∃g c,v= .slice (some ⟨g,0,none⟩) n' c∧Ints.Own w base g n' c xs:=by
 subst hn e
 have h':=h
 rcases h.2 with⟨h1,_⟩|⟨g,c,cur,rfl,_⟩
 ·exact absurd h1 hv
 ·exact⟨g,c,rfl,h'⟩
theorem own_allocI{w:World}{base g n cap:Nat}{xs:List Int}(h:Ints.Own w base g n cap xs)(o:Obj):Ints.Own (w.alloc o) base g n cap xs:=World.ownsRow.alloc h o
end SPuts11
namespace BalApp
open Bals Triples
theorem info2:(Tryz.prog.info? 132).map (fun i=>(i.zero,i.size,i.bytes))=some (some (.agg #[.int .i64 0,.int .i64 0,.int .i64 0]),3,24):=by kernel_rfl
theorem wp_app(u:World){ops:Array Oper}{rest:List Oper}{o:Oper}{a:Act}{Q:Exit→Act→World→Prop}(hgd:o.guard=none)(s x:Operand)
  (ho:o.op= .call {callee:= .builtin .append,args:= #[s,x],argTypes:= #[40,40]})(base g n cap:Nat)(ps:List T3)(vb:Nat)(p q r:Int)
  (hs:a.eval s= .slice (some ⟨g,0,none⟩) n cap)(hx:a.eval x= .slice (some ⟨vb,0,none⟩) 1 1)(hown:Own3 132 u base g n cap ps)(hv:Holds3 u vb 0 (p,q,r))(hn:n≤1048576)(hb:base≤u.heap.size)
  (h:∀g' c' w',Own3 132 w' base g' (n+1) c' (ps++[(p,q,r)])→u.grownBy w' (some g)→(g'=g∨g'=u.heap.size)→wpList Tryz.prog ops Q rest (a.put o.dst (.slice (some ⟨g',0,none⟩) (n+1) c')) w'):wpList Tryz.prog ops Q (o::rest) a u:=by
 obtain⟨i0,hi,hz0,hz1,hz2⟩:=info_parts info2
 have hat:At3 u vb [(p,q,r)]:=by
  intro i hi
  obtain rfl:i=0:=by simpa using hi
  exact hv
 refine wpList_append_own_at u hgd s x 40 ho base 132 i0 (.agg #[.int .i64 0,.int .i64 0,.int .i64 0]) 3 24 Tryz.underlying40 hi hz0 hz1 hz2 rfl (by decide) _ n _ hs hown ⟨vb,0,none⟩ 1 1 (flat3 [(p,q,r)]) hx rfl hat.cells (fun u hu=>flat3_one u _ hu) (by unfold maxLen;omega) (by omega) hb ?_
 intro v' w' own' gr' nil' loc'
 obtain⟨g',c',rfl,o'⟩:=own3_of_row (n':=n+1) (ps:=ps++[(p,q,r)]) own' rfl (by rw[flat3_append]) (by rw[nil'];simp)
 exact h g' c' w' o' gr' (by simpa[Value.ownBlock] using loc')
end BalApp
namespace LotApp
open Tup5
theorem info2:(Tryz.prog.info? 134).map (fun i=>(i.zero,i.size,i.bytes))=some (some (.agg #[.int .i64 0,.int .i64 0,.int .i64 0,.int .i64 0,.int .i64 0]),5,40):=by kernel_rfl
theorem wp_app(u:World){ops:Array Oper}{rest:List Oper}{o:Oper}{a:Act}{Q:Exit→Act→World→Prop}(hgd:o.guard=none)(s x:Operand)
  (ho:o.op= .call {callee:= .builtin .append,args:= #[s,x],argTypes:= #[41,41]})(base g n cap:Nat)(ps:List T5)(vb:Nat)(x0 x1 x2 x3 x4:Int)
  (hs:a.eval s= .slice (some ⟨g,0,none⟩) n cap)(hx:a.eval x= .slice (some ⟨vb,0,none⟩) 1 1)(hown:Own5 134 u base g n cap ps)(hv:Holds5 u vb 0 (x0,x1,x2,x3,x4))(hn:n≤1048576)(hb:base≤u.heap.size)
  (h:∀g' c' w',Own5 134 w' base g' (n+1) c' (ps++[(x0,x1,x2,x3,x4)])→u.grownBy w' (some g)→(g'=g∨g'=u.heap.size)→wpList Tryz.prog ops Q rest (a.put o.dst (.slice (some ⟨g',0,none⟩) (n+1) c')) w'):wpList Tryz.prog ops Q (o::rest) a u:=by
 obtain⟨i0,hi,hz0,hz1,hz2⟩:=info_parts info2
 have hat:At5 u vb [(x0,x1,x2,x3,x4)]:=by
  intro i hi
  obtain rfl:i=0:=by simpa using hi
  exact hv
 refine wpList_append_own_at u hgd s x 41 ho base 134 i0 (.agg #[.int .i64 0,.int .i64 0,.int .i64 0,.int .i64 0,.int .i64 0]) 5 40 Tryz.underlying41 hi hz0 hz1 hz2 rfl (by decide) _ n _ hs hown ⟨vb,0,none⟩ 1 1 (flat5 [(x0,x1,x2,x3,x4)]) hx rfl hat.cells (fun u hu=>flat5_one u _ hu) (by unfold maxLen;omega) (by omega) hb ?_
 intro v' w' own' gr' nil' loc'
 obtain⟨g',c',rfl,o'⟩:=own5_of_row (n':=n+1) (ps:=ps++[(x0,x1,x2,x3,x4)]) own' rfl (by rw[flat5_append]) (by rw[nil'];simp)
 exact h g' c' w' o' gr' (by simpa[Value.ownBlock] using loc')
end LotApp
namespace SSeal11
open SBytes SPut11 SPuts11
open ByteH (Own At)
theorem chkB_in(xs:List Int):0≤chkB xs∧chkB xs≤4294967295:=by
 have:=chk_in xs xs.length
 unfold chkB
 omega
def four(n:Int):List Int:=[n%256,n/256%256,n/65536%256,n/16777216%256]
def sealB(xs:List Int):List Int:=if xs.length≤9000 then numB xs.length++xs++four (chkB xs) else[]
theorem lit_four(w:World)(a b c d:Int):AtO (w.alloc (.cells #[.int .u8 a,.int .u8 b,.int .u8 c,.int .u8 d] 5)) w.heap.size 0 [a,b,c,d]:=by
 intro i hi
 have:i=0∨i=1∨i=2∨i=3:=by simp at hi;omega
 rcases this with rfl|rfl|rfl|rfl<;>simp
theorem sSeal(w:World)(gl cl:Nat)(xs:List Int)(h20:xs.length≤1048576)(hg:gl<w.heap.size)(hr:AtB w gl xs):
  Calls Tryz.prog 96 #[.slice (some ⟨gl,0,none⟩) xs.length cl] w fun e w'=>∃g c,e= .returned (.tuple #[.slice (some ⟨g,0,none⟩) (sealB xs).length c,.bool (decide (xs.length≤9000))])∧Own w' w.heap.size g (sealB xs).length c (sealB xs)∧Below w.heap.size w w':=by
 by_cases h0:xs.length≤9000
 case neg=>
  have e:sealB xs=[]:=if_neg h0
  rw[e]
  have O0:=zh (lit0 w w.heap.size (Nat.le_refl _) rfl)
  have B0:=zh (one_more w (.cells #[] 5))
  have h1:(9000:Int)<xs.length:=by omega
  have D:=zh (show decide (xs.length≤9000)=false from by simp;omega)
  rw[zu D]
  clear e h0 hr
  go_enter Tryz.func96,Tryz.ntmps96
  go_wp2
  go_ret2
  exact⟨_,0,rfl,zu O0,zu B0⟩
 have S:=zh (show numB xs.length++xs++four (chkB xs)=sealB xs from(if_pos h0).symm)
 have D:=zh (show decide (xs.length≤9000)=true from by simp;omega)
 rw[zu D]
 have CI:=zh (show 0≤65536*(chk xs xs.length).2+(chk xs xs.length).1∧65536*(chk xs xs.length).2+(chk xs xs.length).1≤4294967295 from chkB_in xs)
 have R:=zh hr
 have HG:=zh hg
 have nine:=numB_nine (x:=xs.length) (by omega)
 have h1:¬(9000:Int)<xs.length:=by omega
 clear hr hg D
 go_enter Tryz.func96,Tryz.ntmps96
 go_wp2_with fail
 refine(sCheck _ gl cl xs h20 (zu R)).mono ?_
 rintro e u ⟨rfl,rfl⟩
 have S1:=zh (show numB xs.length++xs++four (65536*(chk xs xs.length).2+(chk xs xs.length).1)=sealB xs from zu S)
 clear S
 generalize 65536*(chk xs xs.length).2+(chk xs xs.length).1=n at *
 clear h1
 go_wp2_with fail
 refine(sPutNum _ xs.length (by omega)).mono ?_
 rintro e u1 ⟨g1,c1,rfl,o1,b1⟩
 have O1:=zh o1
 have B1:=zh b1
 have us:=b1.size
 have og:=o1.lt
 clear o1 b1
 go_wp2_with (first|(at_builtin;refine wp_catB _ rfl _ _ rfl u.heap.size g1 (numB xs.length).length c1 xs.length (numB xs.length) xs gl 0 cl rfl rfl (zu O1) rfl (AtO.of (fun i hi=>((AtB.below (zu R) (zu B1) (zu HG)) i hi).1)) (by omega) (by omega) ?_)|go_in)
 intro g2 c2 w2 o2 gr2 loc2
 have O2:=zh o2
 have B2:=zh ((zu B1).grown gr2 (by omega) (fun j hj=>by cases hj;exact og.1))
 have og2:=o2.lt
 have us2:=gr2.size
 clear o2 gr2 loc2
 obtain⟨n0,n1⟩:=zu CI
 have N:=zh (And.intro n0 n1)
 have m9:(numB xs.length).length+xs.length≤9009:=by omega
 generalize hm:(numB xs.length).length+xs.length=m at *
 have HM:=zh hm
 clear hm n0 n1
 go_wp2_with (first|(at_builtin;refine wp_catB _ rfl _ _ rfl u.heap.size g2 m c2 4 (numB xs.length++xs) _ w2.heap.size 0 4 rfl rfl (own_alloc (zu O2) _) (by rfl) (lit_four _ _ _ _ _) (by omega) (by simp;omega) ?_)|go_in)
 intro g3 c3 w3 o3 gr3 loc3
 have O3:=zh o3
 have B3:=zh (((zu B2).alloc (by omega) (.cells #[.int .u8 (n%256),.int .u8 (n/256%256),.int .u8 (n/65536%256),.int .u8 (n/16777216%256)] 5)).grown gr3 (by simp;omega) (fun j hj=>by cases hj;exact og2.1))
 clear o3 gr3 loc3
 go_wp2
 go_ret2
 have e:=zu S1
 have l:(sealB xs).length=m+4:=by rw[←e,←zu HM];simp[four];omega
 refine⟨g3,c3,by rw[l];rfl,?_,zu B3⟩
 rw[l,←e]
 have:=zu O3
 simpa[four,List.append_assoc] using this
end SSeal11
namespace Copy
open BMem
theorem cells2{W:World}{g:Nat}{ps:List (Int×Int)}(h:Pairs.At W g ps):∀(j:Nat) (u:Value),(Pairs.flat ps)[j]?=some u→W.cell? ((⟨g,0,none⟩:Addr).add j)=some u:=by
 intro j u hj
 have hl:j<ps.length*2:=by
  have:=(List.getElem?_eq_some_iff.1 hj).1
  rw[Pairs.flat_len] at this
  exact this
 rw[Addr.add_lit,Nat.zero_add]
 obtain⟨c0,c1⟩:=h (j/2) (by omega)
 obtain⟨f0,f1⟩:=Pairs.flat_get ps (j/2) (by omega)
 rcases(show j%2=0∨j%2=1 by omega) with e|e
 ·rw[show j/2*2=j by omega] at c0 f0
  rw[c0,←hj,f0]
 ·rw[show j/2*2+1=j by omega] at c1 f1
  rw[c1,←hj,f1]
theorem cells3{W:World}{g:Nat}{ps:List Bals.T3}(h:Triples.At3 W g ps):∀(j:Nat) (u:Value),(Triples.flat3 ps)[j]?=some u→W.cell? ((⟨g,0,none⟩:Addr).add j)=some u:=by
 intro j u hj
 have hl:j<ps.length*3:=by
  have:=(List.getElem?_eq_some_iff.1 hj).1
  rw[Triples.flat3_len] at this
  exact this
 rw[Addr.add_lit,Nat.zero_add]
 obtain⟨c0,c1,c2⟩:=h (j/3) (by omega)
 obtain⟨f0,f1,f2⟩:=Triples.flat3_get ps (j/3) (by omega)
 rcases(show j%3=0∨j%3=1∨j%3=2 by omega) with e|e|e
 ·rw[show j/3*3=j by omega] at c0 f0
  rw[c0,←hj,f0]
 ·rw[show j/3*3+1=j by omega] at c1 f1
  rw[c1,←hj,f1]
 ·rw[show j/3*3+2=j by omega] at c2 f2
  rw[c2,←hj,f2]
theorem cells5{W:World}{g:Nat}{ps:List Tup5.T5}(h:Tup5.At5 W g ps):∀(j:Nat) (u:Value),(Tup5.flat5 ps)[j]?=some u→W.cell? ((⟨g,0,none⟩:Addr).add j)=some u:=by
 intro j u hj
 have hl:j<ps.length*5:=by
  have:=(List.getElem?_eq_some_iff.1 hj).1
  rw[Tup5.flat5_len] at this
  exact this
 rw[Addr.add_lit,Nat.zero_add]
 obtain⟨c0,c1,c2,c3,c4⟩:=h (j/5) (by omega)
 obtain⟨f0,f1,f2,f3,f4⟩:=Tup5.flat5_get ps (j/5) (by omega)
 rcases(show j%5=0∨j%5=1∨j%5=2∨j%5=3∨j%5=4 by omega) with e|e|e|e|e
 ·rw[show j/5*5=j by omega] at c0 f0
  rw[c0,←hj,f0]
 ·rw[show j/5*5+1=j by omega] at c1 f1
  rw[c1,←hj,f1]
 ·rw[show j/5*5+2=j by omega] at c2 f2
  rw[c2,←hj,f2]
 ·rw[show j/5*5+3=j by omega] at c3 f3
  rw[c3,←hj,f3]
 ·rw[show j/5*5+4=j by omega] at c4 f4
  rw[c4,←hj,f4]
theorem cells8{W:World}{g:Nat}{ps:List Tup8.T8}(h:Tup8.At8 W g ps):∀(j:Nat) (u:Value),(Tup8.flat8 ps)[j]?=some u→W.cell? ((⟨g,0,none⟩:Addr).add j)=some u:=by
 intro j u hj
 have hl:j<ps.length*8:=by
  have:=(List.getElem?_eq_some_iff.1 hj).1
  rw[Tup8.flat8_len] at this
  exact this
 rw[Addr.add_lit,Nat.zero_add]
 obtain⟨c0,c1,c2,c3,c4,c5,c6,c7⟩:=h (j/8) (by omega)
 obtain⟨f0,f1,f2,f3,f4,f5,f6,f7⟩:=Tup8.flat8_get ps (j/8) (by omega)
 rcases(show j%8=0∨j%8=1∨j%8=2∨j%8=3∨j%8=4∨j%8=5∨j%8=6∨j%8=7 by omega) with e|e|e|e|e|e|e|e
 ·rw[show j/8*8=j by omega] at c0 f0
  rw[c0,←hj,f0]
 ·rw[show j/8*8+1=j by omega] at c1 f1
  rw[c1,←hj,f1]
 ·rw[show j/8*8+2=j by omega] at c2 f2
  rw[c2,←hj,f2]
 ·rw[show j/8*8+3=j by omega] at c3 f3
  rw[c3,←hj,f3]
 ·rw[show j/8*8+4=j by omega] at c4 f4
  rw[c4,←hj,f4]
 ·rw[show j/8*8+5=j by omega] at c5 f5
  rw[c5,←hj,f5]
 ·rw[show j/8*8+6=j by omega] at c6 f6
  rw[c6,←hj,f6]
 ·rw[show j/8*8+7=j by omega] at c7 f7
  rw[c7,←hj,f7]
theorem wpo_append{P:Program}{o:Oper}{a:Act}{u w':World}{K:Act→World→Prop}{Q:Exit→Act→World→Prop}(s x:Operand)(T:TypeId)(ho:o.op= .call {callee:= .builtin .append,args:= #[s,x],argTypes:= #[T,T]}){vs vx v':Value}(hs:a.eval s=vs)(hx:a.eval x=vx)
  (hr:(Builtin.append_ #[T,T] o.type #[vs,vx]).run P u= .ok v' w')(h:K (a.put o.dst v') w'):Oper.wp P o a u K Q:=by
 unfold Oper.wp execOp
 simp only[ho,resolve,invoke,builtin,Sem.run_bind,Sem.run_pure,Result.andThen_ok,List.map_toArray,List.map_cons,List.map_nil,hs,hx,hr]
 exact h
theorem run_copy(w:World)(base:Nat)(t ty e:TypeId)(i:TypeInfo)(z:Value)(size bytes:Nat)(ht:Tryz.prog.underlying t=some (.slice e))(hi:Tryz.prog.info? e=some i)(hz:i.zero=some z)
  (hsize:i.size=size)(hby:i.bytes=bytes)(hzs:z.cells.size=size)(hsz:0<size)(hbb:bytes≤64)(g cap:Nat)(hown:w.ownsRow base e size (.slice (some ⟨g,0,none⟩) 0 cap) 0 [])
  (b m c:Nat)(news:List Value)(hl:news.length=m*size)(hnews:∀j u,news[j]?=some u→w.cell? ((⟨b,0,none⟩:Addr).add j)=some u)(h1:∀u∈news,u.oneCell'=true)(hm:m≤1048576)(hbase:base≤w.heap.size):
  ∃g' c' w',(Builtin.append_ #[t,t] ty #[.slice (some ⟨g,0,none⟩) 0 cap,.slice (some ⟨b,0,none⟩) m c]).run Tryz.prog w= .ok (.slice (some ⟨g',0,none⟩) m c') w'∧w'.ownsRow base e size (.slice (some ⟨g',0,none⟩) m c') m news∧w.grownBy w' (some g)∧(g'=g∨g'=w.heap.size):=by
 obtain⟨v',w',hr,ho,hg,hn,hb⟩:=run_append_own_at (P:=Tryz.prog) w base t ty e i z size bytes ht hi hz hsize hby hzs hsz (.slice (some ⟨g,0,none⟩) 0 cap) 0 [] hown ⟨b,0,none⟩ m c news hl hnews h1 (by unfold maxLen;omega) (by
  have:(0+m)*bytes≤1048576*64:=Nat.mul_le_mul (by omega) hbb
  omega) hbase
 rw[Nat.zero_add,List.nil_append] at ho
 have ne:¬v'= .slice none 0 0:=fun e=>by have:=(hn.1 e).1;simp at this
 rcases ho.2 with⟨e1,_⟩|⟨g',c',cur,e1,h2,h3⟩
 ·exact absurd e1 ne
 ·subst e1
  refine⟨g',c',w',hr,ho,hg,?_⟩
  rcases hb with hb|hb
  ·exact .inl (by simpa[Value.ownBlock] using hb)
  ·exact .inr (by simpa[Value.ownBlock] using hb)
theorem infoAccount:(Tryz.prog.info? 129).map (fun i=>(i.zero,i.size,i.bytes))=some (some (.agg #[.int .i64 0,.int .i64 0]),2,16):=by kernel_rfl
theorem copyAccount(w:World)(base g cap:Nat)(hown:w.ownsRow base 129 2 (.slice (some ⟨g,0,none⟩) 0 cap) 0 [])(ty:TypeId)(b c:Nat)(ps:List (Int×Int))(h:Pairs.At w b ps)(hm:ps.length≤1048576)(hbase:base≤w.heap.size):
  ∃g' c' w',(Builtin.append_ #[38,38] ty #[.slice (some ⟨g,0,none⟩) 0 cap,.slice (some ⟨b,0,none⟩) ps.length c]).run Tryz.prog w= .ok (.slice (some ⟨g',0,none⟩) ps.length c') w'∧w'.ownsRow base 129 2 (.slice (some ⟨g',0,none⟩) ps.length c') ps.length (Pairs.flat ps)∧w.grownBy w' (some g)∧(g'=g∨g'=w.heap.size):=by
 obtain⟨i0,hi,hz0,hz1,hz2⟩:=info_parts infoAccount
 exact run_copy w base 38 ty 129 i0 (.agg #[.int .i64 0,.int .i64 0]) 2 16 Tryz.underlying38 hi hz0 hz1 hz2 rfl (by decide) (by decide) g cap hown b ps.length c (Pairs.flat ps) (Pairs.flat_len ps) (cells2 h) (fun u hu=>Pairs.flat_one u ps hu) hm hbase
theorem infoInstr:(Tryz.prog.info? 130).map (fun i=>(i.zero,i.size,i.bytes))=some (some (.agg #[.int .i64 0,.int .i64 0]),2,16):=by kernel_rfl
theorem copyInstr(w:World)(base g cap:Nat)(hown:w.ownsRow base 130 2 (.slice (some ⟨g,0,none⟩) 0 cap) 0 [])(ty:TypeId)(b c:Nat)(ps:List (Int×Int))(h:Pairs.At w b ps)(hm:ps.length≤1048576)(hbase:base≤w.heap.size):
  ∃g' c' w',(Builtin.append_ #[39,39] ty #[.slice (some ⟨g,0,none⟩) 0 cap,.slice (some ⟨b,0,none⟩) ps.length c]).run Tryz.prog w= .ok (.slice (some ⟨g',0,none⟩) ps.length c') w'∧w'.ownsRow base 130 2 (.slice (some ⟨g',0,none⟩) ps.length c') ps.length (Pairs.flat ps)∧w.grownBy w' (some g)∧(g'=g∨g'=w.heap.size):=by
 obtain⟨i0,hi,hz0,hz1,hz2⟩:=info_parts infoInstr
 exact run_copy w base 39 ty 130 i0 (.agg #[.int .i64 0,.int .i64 0]) 2 16 Tryz.underlying39 hi hz0 hz1 hz2 rfl (by decide) (by decide) g cap hown b ps.length c (Pairs.flat ps) (Pairs.flat_len ps) (cells2 h) (fun u hu=>Pairs.flat_one u ps hu) hm hbase
theorem infoBal:(Tryz.prog.info? 132).map (fun i=>(i.zero,i.size,i.bytes))=some (some (.agg #[.int .i64 0,.int .i64 0,.int .i64 0]),3,24):=by kernel_rfl
theorem copyBal(w:World)(base g cap:Nat)(hown:w.ownsRow base 132 3 (.slice (some ⟨g,0,none⟩) 0 cap) 0 [])(ty:TypeId)(b c:Nat)(ps:List Bals.T3)(h:Triples.At3 w b ps)(hm:ps.length≤1048576)(hbase:base≤w.heap.size):
  ∃g' c' w',(Builtin.append_ #[40,40] ty #[.slice (some ⟨g,0,none⟩) 0 cap,.slice (some ⟨b,0,none⟩) ps.length c]).run Tryz.prog w= .ok (.slice (some ⟨g',0,none⟩) ps.length c') w'∧w'.ownsRow base 132 3 (.slice (some ⟨g',0,none⟩) ps.length c') ps.length (Triples.flat3 ps)∧w.grownBy w' (some g)∧(g'=g∨g'=w.heap.size):=by
 obtain⟨i0,hi,hz0,hz1,hz2⟩:=info_parts infoBal
 exact run_copy w base 40 ty 132 i0 (.agg #[.int .i64 0,.int .i64 0,.int .i64 0]) 3 24 Tryz.underlying40 hi hz0 hz1 hz2 rfl (by decide) (by decide) g cap hown b ps.length c (Triples.flat3 ps) (Triples.flat3_len ps) (cells3 h) (fun u hu=>Triples.flat3_one u ps hu) hm hbase
theorem infoLot:(Tryz.prog.info? 134).map (fun i=>(i.zero,i.size,i.bytes))=some (some (.agg #[.int .i64 0,.int .i64 0,.int .i64 0,.int .i64 0,.int .i64 0]),5,40):=by kernel_rfl
theorem copyLot(w:World)(base g cap:Nat)(hown:w.ownsRow base 134 5 (.slice (some ⟨g,0,none⟩) 0 cap) 0 [])(ty:TypeId)(b c:Nat)(ps:List Tup5.T5)(h:Tup5.At5 w b ps)(hm:ps.length≤1048576)(hbase:base≤w.heap.size):
  ∃g' c' w',(Builtin.append_ #[41,41] ty #[.slice (some ⟨g,0,none⟩) 0 cap,.slice (some ⟨b,0,none⟩) ps.length c]).run Tryz.prog w= .ok (.slice (some ⟨g',0,none⟩) ps.length c') w'∧w'.ownsRow base 134 5 (.slice (some ⟨g',0,none⟩) ps.length c') ps.length (Tup5.flat5 ps)∧w.grownBy w' (some g)∧(g'=g∨g'=w.heap.size):=by
 obtain⟨i0,hi,hz0,hz1,hz2⟩:=info_parts infoLot
 exact run_copy w base 41 ty 134 i0 (.agg #[.int .i64 0,.int .i64 0,.int .i64 0,.int .i64 0,.int .i64 0]) 5 40 Tryz.underlying41 hi hz0 hz1 hz2 rfl (by decide) (by decide) g cap hown b ps.length c (Tup5.flat5 ps) (Tup5.flat5_len ps) (cells5 h) (fun u hu=>Tup5.flat5_one u ps hu) hm hbase
theorem infoTrade:(Tryz.prog.info? 136).map (fun i=>(i.zero,i.size,i.bytes))=some (some (.agg #[.int .i64 0,.int .i64 0,.int .i64 0,.int .i64 0,.int .i64 0,.int .i64 0,.int .i64 0,.int .i64 0]),8,64):=by kernel_rfl
theorem copyTrade(w:World)(base g cap:Nat)(hown:w.ownsRow base 136 8 (.slice (some ⟨g,0,none⟩) 0 cap) 0 [])(ty:TypeId)(b c:Nat)(ps:List Tup8.T8)(h:Tup8.At8 w b ps)(hm:ps.length≤1048576)(hbase:base≤w.heap.size):
  ∃g' c' w',(Builtin.append_ #[42,42] ty #[.slice (some ⟨g,0,none⟩) 0 cap,.slice (some ⟨b,0,none⟩) ps.length c]).run Tryz.prog w= .ok (.slice (some ⟨g',0,none⟩) ps.length c') w'∧w'.ownsRow base 136 8 (.slice (some ⟨g',0,none⟩) ps.length c') ps.length (Tup8.flat8 ps)∧w.grownBy w' (some g)∧(g'=g∨g'=w.heap.size):=by
 obtain⟨i0,hi,hz0,hz1,hz2⟩:=info_parts infoTrade
 exact run_copy w base 42 ty 136 i0 (.agg #[.int .i64 0,.int .i64 0,.int .i64 0,.int .i64 0,.int .i64 0,.int .i64 0,.int .i64 0,.int .i64 0]) 8 64 Tryz.underlying42 hi hz0 hz1 hz2 rfl (by decide) (by decide) g cap hown b ps.length c (Tup8.flat8 ps) (Tup8.flat8_len ps) (cells8 h) (fun u hu=>Tup8.flat8_one u ps hu) hm hbase
end Copy
namespace IPuts11
open SBytes SPut11 SPuts11
open ByteH (Own At)
theorem iForm(w:World)(base g0 c0 n0:Nat)(p0:List Int)(x0:Int)(h0:0≤x0)(hx:x0≤9223372036854775807)(hn:n0≤100000000)(hb:base≤w.heap.size)(ho:Own w base g0 n0 c0 p0):
  Calls Tryz.prog 202 #[.slice (some ⟨g0,0,none⟩) n0 c0,.int .i64 x0] w fun e w'=>∃g c,e= .returned (.slice (some ⟨g,0,none⟩) (n0+(numF x0.toNat).length) c)∧Own w' base g (n0+(numF x0.toNat).length) c (p0++numF x0.toNat)∧Below base w w':=by
 have O0:=zh (show Own w base g0 (n0+([]:List Int).length) c0 (p0++[]) from by simpa using ho)
 have B0:=zh (Below.refl base w)
 have L:=zh (numF_nine (x:=x0.toNat) (by omega))
 obtain⟨r,hr⟩:∃r,Hid (numF x0.toNat=r):=⟨_,rfl⟩
 rw[zu hr] at L⊢
 have S0:=zh (show([]:List Int)++numF x0.toNat=r from zu hr)
 clear hr ho
 go_enter Tryz.func202,Tryz.ntmps202
 go_wp2
 go_loopw [0,1] (fun l a wr=>∃(x:Int) (p:List Int) (g c n:Nat),a= .int .i64 x∧l= .slice (some ⟨g,0,none⟩) n c∧n=n0+p.length∧0≤x∧x≤9223372036854775807∧Hid (p++numF x.toNat=r)∧Hid (Own wr base g n c (p0++p))∧Hid (Below base w wr)) (fun _ a _=>(intOf a).toNat)
 case atStart=>exact⟨x0,[],g0,c0,n0,rfl,rfl,by simp,h0,hx,S0,O0,B0⟩
 case round=>
  clear O0 B0 S0 hx h0
  obtain⟨x,p,g,c,n,rfl,rfl,hnp,x1,x2,HR,HO,HB⟩:=hrel
  have bs:=(zu HB).size
  have pl:p.length≤9:=by have a:=zu L;rw[←zu HR] at a;simp at a;omega
  have nl:n≤100000009:=by omega
  have HN:=zh hnp
  have og:=(zu HO).lt
  have HX:=zh (And.intro x1 x2)
  clear hnp
  by_cases t:127<x
  ·have N:=zh (show(p++[x%128+128])++numF (x/128).toNat=r from by
    rw[←zu HR,numF_more (x:=x.toNat) (by omega),List.append_assoc]
    have e1:((x.toNat%128+128:Nat):Int)=x%128+128:=by omega
    have e2:x.toNat/128=(x/128).toNat:=by omega
    rw[e1,e2];rfl)
   clear HR x1 x2
   go_wp2_with (first|(at_builtin;refine wp_catB _ rfl _ _ rfl base g n c 1 (p0++p) [x%128+128] wr.heap.size 0 1 rfl rfl (own_alloc (zu HO) _) rfl (lit_one _ _) (by omega) (by simp;omega) ?_)|go_in)
   intro g5 c5 w5 o5 gr5 loc5
   have O5:=zh o5
   have B5:=zh (((zu HB).alloc (by omega) (.cells #[.int .u8 (x%128+128)] 5)).grown gr5 (by simp;omega) (fun j hj=>by cases hj;exact og.1))
   clear o5 gr5 loc5
   go_wp2
   go_roundw
   case rel=>
    have xx:=zu HX
    exact⟨x/128,p++[x%128+128],g5,c5,n+1,by simp,rfl,by have:=zu HN;simp;omega,by omega,by omega,N,O5,B5⟩
   case measure=>
    have xx:=zu HX
    simp[intOf]
    omega
  ·have N:=zh (show p++[x]=r from by
    rw[←zu HR,numF_last (x:=x.toNat) (by omega)]
    have e1:((x.toNat:Nat):Int)=x:=by omega
    rw[e1])
   clear HR
   go_wp2_with (first|(at_builtin;refine wp_catB _ rfl _ _ rfl base g n c 1 (p0++p) [x] wr.heap.size 0 1 rfl rfl (own_alloc (zu HO) _) rfl (lit_one _ _) (by omega) (by simp;omega) ?_)|go_in)
   intro g5 c5 w5 o5 gr5 loc5
   have O5:=zh o5
   have B5:=zh (((zu HB).alloc (by omega) (.cells #[.int .u8 x] 5)).grown gr5 (by simp;omega) (fun j hj=>by cases hj;exact og.1))
   clear o5 gr5 loc5
   go_wp2
   go_ret
   have e:=zu N
   have e1:n0+r.length=n+1:=by rw[←e,zu HN];simp;omega
   exact⟨g5,c5,by rw[e1];rfl,by rw[e1,←e];exact zu O5,zu B5⟩
theorem iPutNums(w:World)(gl cl:Nat)(xs:List Int)(h20:xs.length≤1048576)(hg:gl<w.heap.size)(hr:Ints.At w gl xs)(hi:∀i,i<xs.length→xs.getD i 0≤9223372036854775807):
  Calls Tryz.prog 171 #[.slice (some ⟨gl,0,none⟩) xs.length cl] w fun e w'=>∃a c,e= .returned (.slice a (numsB xs).length c)∧VOB.Ob w' w.heap.size a (numsB xs).length c (numsB xs)∧Below w.heap.size w w':=by
 have O0:=zh (lit0 w w.heap.size (Nat.le_refl _) rfl)
 have B0:=zh (one_more w (.cells #[] 5))
 have R:=zh hr
 have HI:=zh hi
 have HG:=zh hg
 obtain⟨r,hq⟩:∃r,Hid (numsB xs=r):=⟨_,rfl⟩
 rw[zu hq]
 clear hr hi hg
 go_enter Tryz.func171,Tryz.ntmps171
 go_wp2
 go_loopw [3,5,9] (fun l _ a wr=>∃(k g c n:Nat),a= .int .i64 k∧k≤xs.length∧l= .slice (some ⟨g,0,none⟩) n c∧n≤9*k∧Hid (n=((xs.take k).flatMap numB).length)∧Hid (∀i,i<k→0≤xs.getD i 0)∧Hid (Own wr w.heap.size g n c ((xs.take k).flatMap numB))∧Hid (Below w.heap.size w wr)) (fun _ _ a _=>xs.length-(intOf a).toNat)
 case atStart=>exact⟨0,w.heap.size,0,0,rfl,by omega,rfl,by omega,zh (by simp),zh (fun i h=>absurd h (by omega)),zh (by simpa using zu O0),B0⟩
 case round=>
  clear O0 B0
  obtain⟨k,g,c,n,rfl,hk,rfl,nk,HN,HP,HO,HB⟩:=hrel
  have bs:=(zu HB).size
  by_cases t:k<xs.length
  ·have d:=(((zu R).below (zu HB) (zu HG)) k t)
   have NX:=zh (flat_next t)
   have HX:=zh ((zu HI) k t)
   have SG:=zh (show 0≤xs.getD k 0→∀i,i<k+1→0≤xs.getD i 0 from fun h i hi=>by
    by_cases e:i=k
    ·subst e;exact h
    ·exact(zu HP) i (by omega))
   have BAD:=zh (show xs.getD k 0<0→r=[] from fun h=>by rw[←zu hq];exact if_neg (fun a=>by have:=a k t;omega))
   clear HP
   generalize xs.getD k 0=y at *
   have kx:(k:Int)<xs.length:=by omega
   by_cases y0:y<0
   ·have e:=(zu BAD) y0
    subst e
    have O5:=zh (lit0 wr w.heap.size bs rfl)
    have B5:=zh ((zu HB).alloc bs (.cells #[] 5))
    clear BAD SG NX HX hq HI R
    go_wp2
    go_ret
    exact⟨_,0,rfl,.of (zu O5),zu B5⟩
   ·have S1:=zh ((zu SG) (by omega))
    have NB:=zh (numB_pos (x:=y) (by omega))
    have nine:=numB_nine (zu HX)
    rw[zu NB] at nine
    have y1:0≤y:=by omega
    have FM:=zh (iForm wr w.heap.size g c n _ y y1 (zu HX) (by omega) bs (zu HO))
    clear BAD SG
    go_wp2_with fail
    refine(zu FM).mono ?_
    rintro e u ⟨g5,c5,rfl,o5,b5⟩
    have O5:=zh o5
    have B5:=zh ((zu HB).trans b5)
    clear o5 b5 FM HO
    go_wp2
    go_roundw
    case rel=>exact⟨k+1,g5,c5,n+(numF y.toNat).length,by go_num,by omega,rfl,by omega,zh (by rw[zu NX,List.length_append,←zu HN,zu NB]),S1,zh (by rw[zu NX,zu NB];exact zu O5),B5⟩
    case measure=>simp[intOf];omega
  ·have e:k=xs.length:=by omega
   subst e
   have E:=zh (show xs.flatMap numB=r from by rw[←zu hq];exact(if_pos (zu HP)).symm)
   have N:=zu HN
   have O:=zu HO
   rw[List.take_length] at N O
   rw[zu E] at N O
   have O5:=zh O
   have N5:=zh N
   clear N O HN HO HP
   go_wp2
   go_ret
   have e:=zu N5
   subst e
   exact⟨_,c,rfl,.of (zu O5),zu HB⟩
end IPuts11
namespace IPut11
open SBytes SPut11 SPuts11
theorem nums_one(x:Int):numsB [x]=numB x:=by
 unfold numsB
 by_cases h:x<0
 ·rw[if_neg (fun a=>by have:=a 0 (by simp);simp at this;omega)]
  exact(if_pos h).symm
 ·rw[if_pos (fun i hi=>by
   have:i=0:=by simpa using hi
   subst this
   simp
   omega)]
  simp
theorem iPutNum(w:World)(x:Int)(hx:x≤9223372036854775807):
  Calls Tryz.prog 147 #[.int .i64 x] w fun e w'=>∃a c,e= .returned (.slice a (numB x).length c)∧VOB.Ob w' w.heap.size a (numB x).length c (numB x)∧Below w.heap.size w w':=by
 have B0:=zh (one_more w (.cells #[.int .i64 x] 3))
 have M:=zh (IPuts11.iPutNums (w.alloc (.cells #[.int .i64 x] 3)) w.heap.size 1 [x] (by simp) (by simp) (fun i hi=>by
  have:i=0:=by simpa using hi
  subst this
  simp) (fun i hi=>by
  have:i=0:=by simpa using hi
  subst this
  simpa using hx))
 rw[nums_one] at M
 generalize numB x=ws at *
 generalize hn:ws.length=nw at *
 have NW:=zh hn
 clear hn
 go_enter Tryz.func147,Tryz.ntmps147
 go_wp2_with fail
 refine(zu M).mono ?_
 rintro e u ⟨a,c,rfl,o,b⟩
 have O:=zh o
 have B:=zh ((zu B0).trans (b.mono (by simp)))
 clear o b M B0
 go_wp2
 go_ret
 exact⟨a,c,rfl,(zu O).mono (by simp),zu B⟩
end IPut11
end Go.Proofs.YtppkkmaoaiopaaaGreat
