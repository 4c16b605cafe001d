/- Lemmas. -/
import Derived.Test.YtcjgepkdpkhljaaGreatQG5
import Derived.Maps.AppendAt
open Go.ChangeShapes Go.WideShapes Go.ChangeAt Go.RowKit
set_option linter.unusedVariables false
set_option linter.unusedSimpArgs false
set_option maxRecDepth 100000
set_option maxHeartbeats 32000000
namespace Go.Proofs.YtcjgepkdpkhljaaGreat
namespace SPut11
open SBytes
open ByteH (Own At)
theorem own_of_row{w:World}{base n n':Nat}{v:Value}{vs:List Value}{xs:List Int}(h:w.ownsRow base 5 1 v n vs)(hn:n=n')(e:vs=xs.map (Value.int .u8))(hv:¬v= .slice none 0 0):
  ∃g c,v= .slice (some ⟨g,0,none⟩) n' c∧Own w base g n' c xs:=by
 subst hn e
 have h':=h
 rcases h.2 with⟨h1,_⟩|⟨g,c,cur,rfl,_⟩
 ·exact absurd h1 hv
 ·exact⟨g,c,rfl,h'⟩
theorem own_alloc{w:World}{base g n cap:Nat}{xs:List Int}(h:Own w base g n cap xs)(o:Obj):Own (w.alloc o) base g n cap xs:=World.ownsRow.alloc h o
theorem lit0(w:World)(base:Nat){g:Nat}(hb:base≤w.heap.size)(hg:g=w.heap.size):Own (w.alloc (.cells #[] 5)) base g 0 0 []:=by
 subst hg
 exact World.ownsRow_lit w #[] 0 hb (by decide) rfl
def AtO(w:World)(g o:Nat)(xs:List Int):Prop:=∀i,i<xs.length→w.cell? ⟨g,o+i,none⟩=some (.int .u8 (xs.getD i 0))
theorem AtO.of{w:World}{g:Nat}{xs:List Int}(h:At w g xs):AtO w g 0 xs:=fun i hi=>by rw[Nat.zero_add];exact h i hi
theorem wp_catB(u:World){ops:Array Oper}{rest:List Oper}{o:Oper}{a:Act}{Q:Exit→Act→World→Prop}(hgd:o.guard=none)(s x:Operand)
  (ho:o.op= .call {callee:= .builtin .append,args:= #[s,x],argTypes:= #[22,22]})(base g n cap m:Nat)(xs ys:List Int)(vb off c:Nat)
  (hs:a.eval s= .slice (some ⟨g,0,none⟩) n cap)(hx:a.eval x= .slice (some ⟨vb,off,none⟩) m c)(hown:Own u base g n cap xs)(hl:ys.length=m)(hv:AtO u vb off ys)(hn:n+m≤9223372036854)(hb:base≤u.heap.size)
  (h:∀g' c' w',Own w' base g' (n+m) c' (xs++ys)→u.grownBy w' (some g)→(g'=g∨g'=u.heap.size)→wpList Tryz.prog ops Q rest (a.put o.dst (.slice (some ⟨g',0,none⟩) (n+m) c')) w'):wpList Tryz.prog ops Q (o::rest) a u:=by
 obtain⟨i0,hi,hz0,hz1,hz2⟩:=info_parts ByteH.info8
 refine wpList_append_own_at u hgd s x 22 ho base 5 i0 (.int .u8 0) 1 1 Tryz.underlying22 hi hz0 hz1 hz2 rfl (by decide) _ n _ hs hown ⟨vb,off,none⟩ m c (ys.map (Value.int .u8)) hx (by simp[hl]) (fun j v hj=>by
  have hj':j<ys.length:=by
   have:=(List.getElem?_eq_some_iff.1 hj).1
   simpa using this
  have:=hv j hj'
  rw[Addr.add_lit,this]
  rw[←hj]
  simp[List.getD,hj']) (by intro u hu;obtain⟨y,_,rfl⟩:=List.mem_map.1 hu;simp[Value.oneCell']) (by unfold maxLen;omega) (by omega) hb ?_
 intro v' w' own' gr' nil' loc'
 obtain⟨g',c',rfl,o'⟩:=own_of_row (n':=n+m) (xs:=xs++ys) own' rfl (by simp) (by rw[nil'];simp)
 exact h g' c' w' o' gr' (by simpa[Value.ownBlock] using loc')
theorem lit_one(w:World)(y:Int):AtO (w.alloc (.cells #[.int .u8 y] 5)) w.heap.size 0 [y]:=by
 intro i hi
 have:i=0:=by simpa using hi
 subst this
 simp
def numF(x:Nat):List Int:=if 127<x then((x%128+128:Nat):Int)::numF (x/128) else[(x:Int)]
termination_by x
theorem numF_more{x:Nat}(h:127<x):numF x=((x%128+128:Nat):Int)::numF (x/128):=by rw[numF,if_pos h]
theorem numF_last{x:Nat}(h:¬127<x):numF x=[(x:Int)]:=by rw[numF,if_neg h]
theorem numF_len(n:Nat):∀x:Nat,x<128^(n+1)→(numF x).length≤n+1:=by
 induction n with
 |zero=>intro x h;rw[numF_last (by omega)];simp
 |succ n ih=>
  intro x h
  by_cases t:127<x
  ·rw[numF_more t]
   have:=ih (x/128) (by rw[Nat.pow_succ] at h;omega)
   simp
   omega
  ·rw[numF_last t];simp
theorem numF_in(n:Nat):∀x:Nat,x<128^(n+1)→∀y∈numF x,0≤y∧y≤255:=by
 induction n with
 |zero=>
  intro x h y hy
  rw[numF_last (by omega)] at hy
  simp at hy
  omega
 |succ n ih=>
  intro x h y hy
  by_cases t:127<x
  ·rw[numF_more t] at hy
   rcases List.mem_cons.1 hy with rfl|hy
   ·omega
   ·exact ih (x/128) (by rw[Nat.pow_succ] at h;omega) y hy
  ·rw[numF_last t] at hy
   simp at hy
   omega
def numB(x:Int):List Int:=if x<0 then[] else numF x.toNat
theorem numF_nine{x:Nat}(h:x≤9223372036854775807):(numF x).length≤9:=numF_len 8 x (by omega)
theorem numB_nine{x:Int}(h:x≤9223372036854775807):(numB x).length≤9:=by
 unfold numB
 split
 ·simp
 ·exact numF_nine (by omega)
theorem one_more(w:World)(o:Obj):Below w.heap.size w (w.alloc o):=(Below.refl _ _).alloc (Nat.le_refl _) _
theorem sPutNum(w:World)(x0:Int)(hx:x0≤9223372036854775807):
  Calls Tryz.prog 42 #[.int .i64 x0] w fun e w'=>∃g c,e= .returned (.slice (some ⟨g,0,none⟩) (numB x0).length c)∧Own w' w.heap.size g (numB x0).length c (numB x0)∧Below w.heap.size w w':=by
 have O0:=zh (lit0 w w.heap.size (Nat.le_refl _) rfl)
 have B0:=zh (one_more w (.cells #[] 5))
 by_cases h0:x0<0
 ·have e:numB x0=[]:=if_pos h0
  rw[e]
  clear e hx
  go_enter Tryz.func42,Tryz.ntmps42
  go_wp2
  go_ret
  exact⟨w.heap.size,0,rfl,zu O0,zu B0⟩
 have e:numB x0=numF x0.toNat:=if_neg h0
 rw[e]
 have L:=zh (numF_nine (x:=x0.toNat) (by omega))
 clear e
 obtain⟨r,hr⟩:∃r,Hid (numF x0.toNat=r):=⟨_,rfl⟩
 rw[zu hr] at L⊢
 have h1:0≤x0:=by omega
 have S0:=zh (show([]:List Int)++numF x0.toNat=r from zu hr)
 clear hr h0
 go_enter Tryz.func42,Tryz.ntmps42
 go_wp2
 go_loopw [0,3] (fun a l wr=>∃(x:Int) (p:List Int) (g c:Nat),a= .int .i64 x∧l= .slice (some ⟨g,0,none⟩) p.length c∧0≤x∧x≤9223372036854775807∧Hid (p++numF x.toNat=r)∧Hid (Own wr w.heap.size g p.length c p)∧Hid (Below w.heap.size w wr)) (fun a _ _=>(intOf a).toNat)
 case atStart=>exact⟨x0,[],w.heap.size,0,rfl,rfl,h1,hx,S0,O0,B0⟩
 case round=>
  clear O0 B0 S0 hx h1
  obtain⟨x,p,g,c,rfl,rfl,x1,x2,HR,HO,HB⟩:=hrel
  have bs:=(zu HB).size
  have pl:p.length≤9:=by have a:=zu L;rw[←zu HR] at a;simp at a;omega
  have og:=(zu HO).lt
  have HX:=zh (And.intro x1 x2)
  by_cases t:127<x
  ·have N:=zh (show(p++[x%128+128])++numF (x/128).toNat=r from by
    rw[←zu HR,numF_more (x:=x.toNat) (by omega),List.append_assoc]
    have e1:((x.toNat%128+128:Nat):Int)=x%128+128:=by omega
    have e2:x.toNat/128=(x/128).toNat:=by omega
    rw[e1,e2];rfl)
   have E:=zh (show wrap64 (x.tdiv 128)=x/128 from by rw[Int.tdiv_eq_ediv_of_nonneg x1,wrap64];omega)
   clear HR x1 x2
   go_wp2_with (first|(at_builtin;refine wp_catB _ rfl _ _ rfl w.heap.size g p.length c 1 p [x%128+128] wr.heap.size 0 1 rfl rfl (own_alloc (zu HO) _) rfl (lit_one _ _) (by omega) (by simp;omega) ?_)|go_in)
   intro g5 c5 w5 o5 gr5 loc5
   have O5:=zh o5
   have B5:=zh (((zu HB).alloc (by omega) (.cells #[.int .u8 (x%128+128)] 5)).grown gr5 (by simp;omega) (fun j hj=>by cases hj;exact og.1))
   clear o5 gr5 loc5
   go_wp2
   go_roundw
   case rel=>
    have xx:=zu HX
    exact⟨x/128,p++[x%128+128],g5,c5,congrArg (Value.int .i64) (zu E),by rw[show(p++[x%128+128]).length=p.length+1 by simp],by omega,by omega,N,zh (by rw[show(p++[x%128+128]).length=p.length+1 by simp];exact zu O5),B5⟩
   case measure=>
    have xx:=zu HX
    have e:=zu E
    simp[intOf,e]
    omega
  ·have N:=zh (show p++[x]=r from by
    rw[←zu HR,numF_last (x:=x.toNat) (by omega)]
    have e1:((x.toNat:Nat):Int)=x:=by omega
    rw[e1])
   clear HR
   go_wp2_with (first|(at_builtin;refine wp_catB _ rfl _ _ rfl w.heap.size g p.length c 1 p [x] wr.heap.size 0 1 rfl rfl (own_alloc (zu HO) _) rfl (lit_one _ _) (by omega) (by simp;omega) ?_)|go_in)
   intro g5 c5 w5 o5 gr5 loc5
   have O5:=zh o5
   have B5:=zh (((zu HB).alloc (by omega) (.cells #[.int .u8 x] 5)).grown gr5 (by simp;omega) (fun j hj=>by cases hj;exact og.1))
   clear o5 gr5 loc5
   go_wp2
   go_ret
   have e:=zu N
   have e1:r.length=p.length+1:=by rw[←e];simp
   exact⟨g5,c5,by rw[e1];rfl,by rw[e1,←e];exact zu O5,zu B5⟩
end SPut11
namespace SPuts11
open SBytes SPut11
open ByteH (Own At)
def numsB(xs:List Int):List Int:=if ∀i,i<xs.length→0≤xs.getD i 0 then xs.flatMap numB else[]
theorem flat_next{xs:List Int}{k:Nat}(h:k<xs.length):(xs.take (k+1)).flatMap numB=(xs.take k).flatMap numB++numB (xs.getD k 0):=by
 rw[List.take_succ_eq_append_getElem h,List.flatMap_append]
 simp[List.getD,h]
theorem flat_len(xs:List Int)(h:∀i,i<xs.length→xs.getD i 0≤9223372036854775807)(k:Nat)(hk:k≤xs.length):((xs.take k).flatMap numB).length≤9*k:=by
 induction k with
 |zero=>simp
 |succ k ih=>
  rw[flat_next (by omega),List.length_append]
  have a:=ih (by omega)
  have b:=numB_nine (h k (by omega))
  omega
theorem numB_pos{x:Int}(h:0≤x):numB x=numF x.toNat:=if_neg (by omega)
theorem sPutNums(w:World)(gl cl:Nat)(xs:List Int)(h20:xs.length≤1048576)(hg:gl<w.heap.size)(hr:Ints.At w gl xs)(hi:∀i,i<xs.length→xs.getD i 0≤9223372036854775807):
  Calls Tryz.prog 43 #[.slice (some ⟨gl,0,none⟩) xs.length cl] w fun e w'=>∃g c,e= .returned (.slice (some ⟨g,0,none⟩) (numsB xs).length c)∧Own w' w.heap.size g (numsB xs).length c (numsB xs)∧Below w.heap.size w w':=by
 have O0:=zh (lit0 w w.heap.size (Nat.le_refl _) rfl)
 have B0:=zh (one_more w (.cells #[] 5))
 have R:=zh hr
 have HI:=zh hi
 have HG:=zh hg
 obtain⟨r,hq⟩:∃r,Hid (numsB xs=r):=⟨_,rfl⟩
 rw[zu hq]
 clear hr hi hg
 go_enter Tryz.func43,Tryz.ntmps43
 go_wp2
 go_loopw [3,4] (fun l a wr=>∃(k g c n:Nat),a= .int .i64 k∧k≤xs.length∧l= .slice (some ⟨g,0,none⟩) n c∧n≤9*k∧Hid (n=((xs.take k).flatMap numB).length)∧Hid (∀i,i<k→0≤xs.getD i 0)∧Hid (Own wr w.heap.size g n c ((xs.take k).flatMap numB))∧Hid (Below w.heap.size w wr)) (fun _ a _=>xs.length-(intOf a).toNat)
 case atStart=>exact⟨0,w.heap.size,0,0,rfl,by omega,rfl,by omega,zh (by simp),zh (fun i h=>absurd h (by omega)),zh (by simpa using zu O0),B0⟩
 case round=>
  clear O0 B0
  obtain⟨k,g,c,n,rfl,hk,rfl,nk,HN,HP,HO,HB⟩:=hrel
  have bs:=(zu HB).size
  have og:=(zu HO).lt
  by_cases t:k<xs.length
  ·have d:=(((zu R).below (zu HB) (zu HG)) k t)
   have NX:=zh (flat_next t)
   have HX:=zh ((zu HI) k t)
   have SG:=zh (show 0≤xs.getD k 0→∀i,i<k+1→0≤xs.getD i 0 from fun h i hi=>by
    by_cases e:i=k
    ·subst e;exact h
    ·exact(zu HP) i (by omega))
   have BAD:=zh (show xs.getD k 0<0→r=[] from fun h=>by rw[←zu hq];exact if_neg (fun a=>by have:=a k t;omega))
   clear HP
   generalize xs.getD k 0=y at *
   have kx:(k:Int)<xs.length:=by omega
   by_cases y0:y<0
   ·have e:=(zu BAD) y0
    subst e
    have O5:=zh (lit0 wr w.heap.size bs rfl)
    have B5:=zh ((zu HB).alloc bs (.cells #[] 5))
    clear BAD SG NX HX hq HI R
    go_wp2
    go_ret
    exact⟨_,0,rfl,zu O5,zu B5⟩
   ·have S1:=zh ((zu SG) (by omega))
    have nine:=numB_nine (zu HX)
    have xl:=zu HX
    clear BAD SG
    go_wp2_with fail
    refine(sPutNum _ y xl).mono ?_
    rintro e u ⟨g1,c1,rfl,o1,b1⟩
    have O1:=zh o1
    have B1:=zh ((zu HB).trans (b1.mono bs))
    have HO1:=zh ((zu HO).below b1 og.2)
    have us:=b1.size
    clear o1 b1
    go_wp2_with (first|(at_builtin;refine wp_catB _ rfl _ _ rfl w.heap.size g n c (numB y).length _ (numB y) g1 0 c1 rfl rfl (zu HO1) rfl (AtO.of (zu O1).at) (by omega) (by omega) ?_)|go_in)
    intro g5 c5 w5 o5 gr5 loc5
    have O5:=zh o5
    have B5:=zh ((zu B1).grown gr5 (by omega) (fun j hj=>by cases hj;exact og.1))
    clear o5 gr5 loc5
    go_wp2
    go_roundw
    case rel=>exact⟨k+1,g5,c5,n+(numB y).length,by go_num,by omega,rfl,by omega,zh (by rw[zu NX,List.length_append,←zu HN]),S1,zh (by rw[zu NX];exact zu O5),B5⟩
    case measure=>simp[intOf];omega
  ·have e:k=xs.length:=by omega
   subst e
   have E:=zh (show xs.flatMap numB=r from by rw[←zu hq];exact(if_pos (zu HP)).symm)
   have N:=zu HN
   have O:=zu HO
   rw[List.take_length] at N O
   rw[zu E] at N O
   have O5:=zh O
   have N5:=zh N
   clear N O HN HO HP
   go_wp2
   go_ret
   have e:=zu N5
   subst e
   exact⟨g,c,rfl,zu O5,zu HB⟩
theorem own_of_rowI{w:World}{base n n':Nat}{v:Value}{vs:List Value}{xs:List Int}(h:w.ownsRow base 3 1 v n vs)(hn:n=n')(e:vs=xs.map (Value.int .i64))(hv:¬v= .slice none 0 0):
  ∃g c,v= .slice (some ⟨g,0,none⟩) n' c∧Ints.Own w base g n' c xs:=by
 subst hn e
 have h':=h
 rcases h.2 with⟨h1,_⟩|⟨g,c,cur,rfl,_⟩
 ·exact absurd h1 hv
 ·exact⟨g,c,rfl,h'⟩
theorem own_allocI{w:World}{base g n cap:Nat}{xs:List Int}(h:Ints.Own w base g n cap xs)(o:Obj):Ints.Own (w.alloc o) base g n cap xs:=World.ownsRow.alloc h o
theorem lit0I(w:World)(base:Nat){g:Nat}(hb:base≤w.heap.size)(hg:g=w.heap.size):Ints.Own (w.alloc (.cells #[] 3)) base g 0 0 []:=by
 subst hg
 exact World.ownsRow_lit w #[] 0 hb (by decide) rfl
theorem wp_appI(u:World){ops:Array Oper}{rest:List Oper}{o:Oper}{a:Act}{Q:Exit→Act→World→Prop}(hgd:o.guard=none)(s x:Operand)
  (ho:o.op= .call {callee:= .builtin .append,args:= #[s,x],argTypes:= #[24,24]})(base g n cap:Nat)(xs:List Int)(vb:Nat)(y:Int)
  (hs:a.eval s= .slice (some ⟨g,0,none⟩) n cap)(hx:a.eval x= .slice (some ⟨vb,0,none⟩) 1 1)(hown:Ints.Own u base g n cap xs)(hv:u.cell? ⟨vb,0,none⟩=some (.int .i64 y))(hn:n≤1048576)(hb:base≤u.heap.size)
  (h:∀g' c' w',Ints.Own w' base g' (n+1) c' (xs++[y])→u.grownBy w' (some g)→(g'=g∨g'=u.heap.size)→wpList Tryz.prog ops Q rest (a.put o.dst (.slice (some ⟨g',0,none⟩) (n+1) c')) w'):wpList Tryz.prog ops Q (o::rest) a u:=by
 obtain⟨i0,hi,hz0,hz1,hz2⟩:=info_parts Ints.info3
 refine wpList_append_own_at u hgd s x 24 ho base 3 i0 (.int .i64 0) 1 8 Tryz.underlying24 hi hz0 hz1 hz2 rfl (by decide) _ n _ hs hown ⟨vb,0,none⟩ 1 1 [.int .i64 y] hx rfl (fun j v hj=>by
  cases j with
  |zero=>
   have e:v= .int .i64 y:=by simpa using hj.symm
   rw[e]
   simpa[Addr.add] using hv
  |succ j=>simp at hj) (by simp[Value.oneCell']) (by unfold maxLen;omega) (by omega) hb ?_
 intro v' w' own' gr' nil' loc'
 obtain⟨g',c',rfl,o'⟩:=own_of_rowI (n':=n+1) (xs:=xs++[y]) own' rfl (by simp) (by rw[nil'];simp)
 exact h g' c' w' o' gr' (by simpa[Value.ownBlock] using loc')
def gets(xs:List Int):Nat→Int→List Int→List Int×Int×Bool
 |0,p,l=>(l,p,true)
 |m+1,p,l=>if(getN xs p).2.2=true then gets xs m (getN xs p).2.1 (l++[(getN xs p).1]) else([],0,false)
def getsN(xs:List Int)(p many:Int):List Int×Int×Bool:=
 if(0≤many∧many≤2000)∧0≤p∧p≤xs.length then gets xs many.toNat p [] else([],0,false)
end SPuts11
namespace Draw11
open SBytes SPut11 SPuts11
open Draw (CodeAt Cur Only Moved below once new pick byte)
theorem bytes_only{w w':World}{base g n cap c:Nat}{xs:List Int}(h:ByteH.Own w base g n cap xs)(o:Only c w w')(hne:g≠c):ByteH.Own w' base g n cap xs:=by
 refine⟨h.1,?_⟩
 have hlt:=h.lt.2
 rcases h.2 with⟨z,_⟩|⟨g',c',cur,z,h2,h3,h4⟩
 ·simp at z
 ·obtain⟨e,_⟩:g=g'∧cap=c':=by simpa using z
  subst e
  exact Or.inr ⟨g,c',cur,z,h2,by rw[o.2 g hlt hne];exact h3,h4⟩
section
variable {w0 w u v:World} {c g:Nat} {a:Option Addr} {len cap:Nat}
theorem moved_start(h:Cur w0 w c a len cap):Moved w0 w w c a len cap:=⟨h,Only.refl c w⟩
theorem moved_below(h:Moved w0 w u c a len cap)(k:Below u.heap.size u v):Moved w0 w v c a len cap:=
 ⟨Draw.cur_below h.1 k,Nat.le_trans h.2.1 k.size,fun i hi hc=>(k.block i (Nat.lt_of_lt_of_le hi h.2.1)).trans (h.2.2 i hi hc)⟩
theorem moved_alloc(h:Moved w0 w u c a len cap)(cs:Array Value)(t:TypeId):Moved w0 w (u.alloc (.cells cs t)) c a len cap:=moved_below h ((Below.refl _ _).alloc (Nat.le_refl _) _)
theorem moved_grown(h:Moved w0 w u c a len cap)(k:u.grownBy v (some g))(hc:c<w.heap.size)(hg:w.heap.size≤g)(h0:w0.heap.size≤w.heap.size):Moved w0 w v c a len cap:=
 ⟨Draw.cur_grown h.1 k (Nat.le_trans h0 hg) (by omega),Nat.le_trans h.2.1 k.size,fun i hi hne=>(k.block i (Nat.lt_of_lt_of_le hi h.2.1) (by simp;omega)).trans (h.2.2 i hi hne)⟩
end
def ks(x y:Int)(j:Nat):Int:=([0,1,127,128,255,16383,16384,2097151,2097152,-1,9223372036854775807,72057594037927935,x,y]:List Int).getD j 0
end Draw11
namespace Code11
open SBytes SPut11 SPuts11
open Draw (CodeAt)
theorem codeAt{w:World}{a:Option Addr}{len cap:Nat}{zs:List Int}(h:Ints.IsRow .u8 w a len cap zs):CodeAt w a len:=by
 obtain⟨hl,hr,hi,_⟩:=Law11.row_bytes h
 rcases hr with h0|⟨b,off,rfl,hb,hc⟩
 ·exact .inl (by omega)
 ·exact .inr ⟨b,off,zs.take len,rfl,hb,fun i hi'=>⟨hc i (by omega),hi i (by omega)⟩⟩
theorem same(w:World)(g1 g2 n c1 c2:Nat)(xs:List Int)(hl:xs.length=n)(h20:n≤1048576)(h1:Ints.At w g1 xs)(h2:Ints.At w g2 xs):
  Calls Tryz.prog 10 #[.slice (some ⟨g1,0,none⟩) n c1,.slice (some ⟨g2,0,none⟩) n c2] w fun e w'=>e= .returned (.bool true)∧Below w.heap.size w w':=by
 go_enter Tryz.func10,Tryz.ntmps10
 go_wp2
 go_loopw [5] (fun i wr=>∃(k:Nat),k≤n∧i= .int .i64 k∧Ints.At wr g1 xs∧Ints.At wr g2 xs∧Below w.heap.size w wr) (fun i _=>n-(intOf i).toNat)
 case atStart=>exact⟨0,by omega,rfl,h1,h2,Below.refl _ _⟩
 case round=>
  clear h1 h2
  obtain⟨k,hk,rfl,h1,h2,hb⟩:=hrel
  by_cases t:k<n
  ·have e1:=h1 k (by omega)
   have e2:=h2 k (by omega)
   have H1:=zh h1
   have H2:=zh h2
   have HB:=zh hb
   clear h1 h2 hb
   generalize xs.getD k 0=z at *
   go_wp2
   go_region
   go_wp2
   go_roundw
   case rel=>exact⟨k+1,by omega,by go_num,zu H1,zu H2,(zu HB).drew⟩
   case measure=>simp[intOf];omega
  ·have HB:=zh hb
   clear h1 h2 hb
   go_wp2
   go_ret
   exact⟨rfl,zu HB⟩
end Code11
namespace Copy
open BMem
theorem cells2{W:World}{g:Nat}{ps:List (Int×Int)}(h:Pairs.At W g ps):∀(j:Nat) (u:Value),(Pairs.flat ps)[j]?=some u→W.cell? ((⟨g,0,none⟩:Addr).add j)=some u:=by
 intro j u hj
 have hl:j<ps.length*2:=by
  have:=(List.getElem?_eq_some_iff.1 hj).1
  rw[Pairs.flat_len] at this
  exact this
 rw[Addr.add_lit,Nat.zero_add]
 obtain⟨c0,c1⟩:=h (j/2) (by omega)
 obtain⟨f0,f1⟩:=Pairs.flat_get ps (j/2) (by omega)
 rcases(show j%2=0∨j%2=1 by omega) with e|e
 ·rw[show j/2*2=j by omega] at c0 f0
  rw[c0,←hj,f0]
 ·rw[show j/2*2+1=j by omega] at c1 f1
  rw[c1,←hj,f1]
theorem cells3{W:World}{g:Nat}{ps:List Bals.T3}(h:Triples.At3 W g ps):∀(j:Nat) (u:Value),(Triples.flat3 ps)[j]?=some u→W.cell? ((⟨g,0,none⟩:Addr).add j)=some u:=by
 intro j u hj
 have hl:j<ps.length*3:=by
  have:=(List.getElem?_eq_some_iff.1 hj).1
  rw[Triples.flat3_len] at this
  exact this
 rw[Addr.add_lit,Nat.zero_add]
 obtain⟨c0,c1,c2⟩:=h (j/3) (by omega)
 obtain⟨f0,f1,f2⟩:=Triples.flat3_get ps (j/3) (by omega)
 rcases(show j%3=0∨j%3=1∨j%3=2 by omega) with e|e|e
 ·rw[show j/3*3=j by omega] at c0 f0
  rw[c0,←hj,f0]
 ·rw[show j/3*3+1=j by omega] at c1 f1
  rw[c1,←hj,f1]
 ·rw[show j/3*3+2=j by omega] at c2 f2
  rw[c2,←hj,f2]
theorem cells5{W:World}{g:Nat}{ps:List Tup5.T5}(h:Tup5.At5 W g ps):∀(j:Nat) (u:Value),(Tup5.flat5 ps)[j]?=some u→W.cell? ((⟨g,0,none⟩:Addr).add j)=some u:=by
 intro j u hj
 have hl:j<ps.length*5:=by
  have:=(List.getElem?_eq_some_iff.1 hj).1
  rw[Tup5.flat5_len] at this
  exact this
 rw[Addr.add_lit,Nat.zero_add]
 obtain⟨c0,c1,c2,c3,c4⟩:=h (j/5) (by omega)
 obtain⟨f0,f1,f2,f3,f4⟩:=Tup5.flat5_get ps (j/5) (by omega)
 rcases(show j%5=0∨j%5=1∨j%5=2∨j%5=3∨j%5=4 by omega) with e|e|e|e|e
 ·rw[show j/5*5=j by omega] at c0 f0
  rw[c0,←hj,f0]
 ·rw[show j/5*5+1=j by omega] at c1 f1
  rw[c1,←hj,f1]
 ·rw[show j/5*5+2=j by omega] at c2 f2
  rw[c2,←hj,f2]
 ·rw[show j/5*5+3=j by omega] at c3 f3
  rw[c3,←hj,f3]
 ·rw[show j/5*5+4=j by omega] at c4 f4
  rw[c4,←hj,f4]
theorem cells8{W:World}{g:Nat}{ps:List Tup8.T8}(h:Tup8.At8 W g ps):∀(j:Nat) (u:Value),(Tup8.flat8 ps)[j]?=some u→W.cell? ((⟨g,0,none⟩:Addr).add j)=some u:=by
 intro j u hj
 have hl:j<ps.length*8:=by
  have:=(List.getElem?_eq_some_iff.1 hj).1
  rw[Tup8.flat8_len] at this
  exact this
 rw[Addr.add_lit,Nat.zero_add]
 obtain⟨c0,c1,c2,c3,c4,c5,c6,c7⟩:=h (j/8) (by omega)
 obtain⟨f0,f1,f2,f3,f4,f5,f6,f7⟩:=Tup8.flat8_get ps (j/8) (by omega)
 rcases(show j%8=0∨j%8=1∨j%8=2∨j%8=3∨j%8=4∨j%8=5∨j%8=6∨j%8=7 by omega) with e|e|e|e|e|e|e|e
 ·rw[show j/8*8=j by omega] at c0 f0
  rw[c0,←hj,f0]
 ·rw[show j/8*8+1=j by omega] at c1 f1
  rw[c1,←hj,f1]
 ·rw[show j/8*8+2=j by omega] at c2 f2
  rw[c2,←hj,f2]
 ·rw[show j/8*8+3=j by omega] at c3 f3
  rw[c3,←hj,f3]
 ·rw[show j/8*8+4=j by omega] at c4 f4
  rw[c4,←hj,f4]
 ·rw[show j/8*8+5=j by omega] at c5 f5
  rw[c5,←hj,f5]
 ·rw[show j/8*8+6=j by omega] at c6 f6
  rw[c6,←hj,f6]
 ·rw[show j/8*8+7=j by omega] at c7 f7
  rw[c7,←hj,f7]
theorem wpo_append{P:Program}{o:Oper}{a:Act}{u w':World}{K:Act→World→Prop}{Q:Exit→Act→World→Prop}(s x:Operand)(T:TypeId)(ho:o.op= .call {callee:= .builtin .append,args:= #[s,x],argTypes:= #[T,T]}){vs vx v':Value}(hs:a.eval s=vs)(hx:a.eval x=vx)
  (hr:(Builtin.append_ #[T,T] o.type #[vs,vx]).run P u= .ok v' w')(h:K (a.put o.dst v') w'):Oper.wp P o a u K Q:=by
 unfold Oper.wp execOp
 simp only[ho,resolve,invoke,builtin,Sem.run_bind,Sem.run_pure,Result.andThen_ok,List.map_toArray,List.map_cons,List.map_nil,hs,hx,hr]
 exact h
theorem run_copy(w:World)(base:Nat)(t ty e:TypeId)(i:TypeInfo)(z:Value)(size bytes:Nat)(ht:Tryz.prog.underlying t=some (.slice e))(hi:Tryz.prog.info? e=some i)(hz:i.zero=some z)
  (hsize:i.size=size)(hby:i.bytes=bytes)(hzs:z.cells.size=size)(hsz:0<size)(hbb:bytes≤64)(g cap:Nat)(hown:w.ownsRow base e size (.slice (some ⟨g,0,none⟩) 0 cap) 0 [])
  (b m c:Nat)(news:List Value)(hl:news.length=m*size)(hnews:∀j u,news[j]?=some u→w.cell? ((⟨b,0,none⟩:Addr).add j)=some u)(h1:∀u∈news,u.oneCell'=true)(hm:m≤1048576)(hbase:base≤w.heap.size):
  ∃g' c' w',(Builtin.append_ #[t,t] ty #[.slice (some ⟨g,0,none⟩) 0 cap,.slice (some ⟨b,0,none⟩) m c]).run Tryz.prog w= .ok (.slice (some ⟨g',0,none⟩) m c') w'∧w'.ownsRow base e size (.slice (some ⟨g',0,none⟩) m c') m news∧w.grownBy w' (some g)∧(g'=g∨g'=w.heap.size):=by
 obtain⟨v',w',hr,ho,hg,hn,hb⟩:=run_append_own_at (P:=Tryz.prog) w base t ty e i z size bytes ht hi hz hsize hby hzs hsz (.slice (some ⟨g,0,none⟩) 0 cap) 0 [] hown ⟨b,0,none⟩ m c news hl hnews h1 (by unfold maxLen;omega) (by
  have:(0+m)*bytes≤1048576*64:=Nat.mul_le_mul (by omega) hbb
  omega) hbase
 rw[Nat.zero_add,List.nil_append] at ho
 have ne:¬v'= .slice none 0 0:=fun e=>by have:=(hn.1 e).1;simp at this
 rcases ho.2 with⟨e1,_⟩|⟨g',c',cur,e1,h2,h3⟩
 ·exact absurd e1 ne
 ·subst e1
  refine⟨g',c',w',hr,ho,hg,?_⟩
  rcases hb with hb|hb
  ·exact .inl (by simpa[Value.ownBlock] using hb)
  ·exact .inr (by simpa[Value.ownBlock] using hb)
theorem infoAccount:(Tryz.prog.info? 112).map (fun i=>(i.zero,i.size,i.bytes))=some (some (.agg #[.int .i64 0,.int .i64 0]),2,16):=by kernel_rfl
theorem copyAccount(w:World)(base g cap:Nat)(hown:w.ownsRow base 112 2 (.slice (some ⟨g,0,none⟩) 0 cap) 0 [])(ty:TypeId)(b c:Nat)(ps:List (Int×Int))(h:Pairs.At w b ps)(hm:ps.length≤1048576)(hbase:base≤w.heap.size):
  ∃g' c' w',(Builtin.append_ #[38,38] ty #[.slice (some ⟨g,0,none⟩) 0 cap,.slice (some ⟨b,0,none⟩) ps.length c]).run Tryz.prog w= .ok (.slice (some ⟨g',0,none⟩) ps.length c') w'∧w'.ownsRow base 112 2 (.slice (some ⟨g',0,none⟩) ps.length c') ps.length (Pairs.flat ps)∧w.grownBy w' (some g)∧(g'=g∨g'=w.heap.size):=by
 obtain⟨i0,hi,hz0,hz1,hz2⟩:=info_parts infoAccount
 exact run_copy w base 38 ty 112 i0 (.agg #[.int .i64 0,.int .i64 0]) 2 16 Tryz.underlying38 hi hz0 hz1 hz2 rfl (by decide) (by decide) g cap hown b ps.length c (Pairs.flat ps) (Pairs.flat_len ps) (cells2 h) (fun u hu=>Pairs.flat_one u ps hu) hm hbase
theorem infoInstr:(Tryz.prog.info? 113).map (fun i=>(i.zero,i.size,i.bytes))=some (some (.agg #[.int .i64 0,.int .i64 0]),2,16):=by kernel_rfl
theorem copyInstr(w:World)(base g cap:Nat)(hown:w.ownsRow base 113 2 (.slice (some ⟨g,0,none⟩) 0 cap) 0 [])(ty:TypeId)(b c:Nat)(ps:List (Int×Int))(h:Pairs.At w b ps)(hm:ps.length≤1048576)(hbase:base≤w.heap.size):
  ∃g' c' w',(Builtin.append_ #[39,39] ty #[.slice (some ⟨g,0,none⟩) 0 cap,.slice (some ⟨b,0,none⟩) ps.length c]).run Tryz.prog w= .ok (.slice (some ⟨g',0,none⟩) ps.length c') w'∧w'.ownsRow base 113 2 (.slice (some ⟨g',0,none⟩) ps.length c') ps.length (Pairs.flat ps)∧w.grownBy w' (some g)∧(g'=g∨g'=w.heap.size):=by
 obtain⟨i0,hi,hz0,hz1,hz2⟩:=info_parts infoInstr
 exact run_copy w base 39 ty 113 i0 (.agg #[.int .i64 0,.int .i64 0]) 2 16 Tryz.underlying39 hi hz0 hz1 hz2 rfl (by decide) (by decide) g cap hown b ps.length c (Pairs.flat ps) (Pairs.flat_len ps) (cells2 h) (fun u hu=>Pairs.flat_one u ps hu) hm hbase
theorem infoBal:(Tryz.prog.info? 184).map (fun i=>(i.zero,i.size,i.bytes))=some (some (.agg #[.int .i64 0,.int .i64 0,.int .i64 0]),3,24):=by kernel_rfl
theorem copyBal(w:World)(base g cap:Nat)(hown:w.ownsRow base 184 3 (.slice (some ⟨g,0,none⟩) 0 cap) 0 [])(ty:TypeId)(b c:Nat)(ps:List Bals.T3)(h:Triples.At3 w b ps)(hm:ps.length≤1048576)(hbase:base≤w.heap.size):
  ∃g' c' w',(Builtin.append_ #[40,40] ty #[.slice (some ⟨g,0,none⟩) 0 cap,.slice (some ⟨b,0,none⟩) ps.length c]).run Tryz.prog w= .ok (.slice (some ⟨g',0,none⟩) ps.length c') w'∧w'.ownsRow base 184 3 (.slice (some ⟨g',0,none⟩) ps.length c') ps.length (Triples.flat3 ps)∧w.grownBy w' (some g)∧(g'=g∨g'=w.heap.size):=by
 obtain⟨i0,hi,hz0,hz1,hz2⟩:=info_parts infoBal
 exact run_copy w base 40 ty 184 i0 (.agg #[.int .i64 0,.int .i64 0,.int .i64 0]) 3 24 Tryz.underlying40 hi hz0 hz1 hz2 rfl (by decide) (by decide) g cap hown b ps.length c (Triples.flat3 ps) (Triples.flat3_len ps) (cells3 h) (fun u hu=>Triples.flat3_one u ps hu) hm hbase
theorem infoLot:(Tryz.prog.info? 188).map (fun i=>(i.zero,i.size,i.bytes))=some (some (.agg #[.int .i64 0,.int .i64 0,.int .i64 0,.int .i64 0,.int .i64 0]),5,40):=by kernel_rfl
theorem copyLot(w:World)(base g cap:Nat)(hown:w.ownsRow base 188 5 (.slice (some ⟨g,0,none⟩) 0 cap) 0 [])(ty:TypeId)(b c:Nat)(ps:List Tup5.T5)(h:Tup5.At5 w b ps)(hm:ps.length≤1048576)(hbase:base≤w.heap.size):
  ∃g' c' w',(Builtin.append_ #[41,41] ty #[.slice (some ⟨g,0,none⟩) 0 cap,.slice (some ⟨b,0,none⟩) ps.length c]).run Tryz.prog w= .ok (.slice (some ⟨g',0,none⟩) ps.length c') w'∧w'.ownsRow base 188 5 (.slice (some ⟨g',0,none⟩) ps.length c') ps.length (Tup5.flat5 ps)∧w.grownBy w' (some g)∧(g'=g∨g'=w.heap.size):=by
 obtain⟨i0,hi,hz0,hz1,hz2⟩:=info_parts infoLot
 exact run_copy w base 41 ty 188 i0 (.agg #[.int .i64 0,.int .i64 0,.int .i64 0,.int .i64 0,.int .i64 0]) 5 40 Tryz.underlying41 hi hz0 hz1 hz2 rfl (by decide) (by decide) g cap hown b ps.length c (Tup5.flat5 ps) (Tup5.flat5_len ps) (cells5 h) (fun u hu=>Tup5.flat5_one u ps hu) hm hbase
theorem infoTrade:(Tryz.prog.info? 82).map (fun i=>(i.zero,i.size,i.bytes))=some (some (.agg #[.int .i64 0,.int .i64 0,.int .i64 0,.int .i64 0,.int .i64 0,.int .i64 0,.int .i64 0,.int .i64 0]),8,64):=by kernel_rfl
theorem copyTrade(w:World)(base g cap:Nat)(hown:w.ownsRow base 82 8 (.slice (some ⟨g,0,none⟩) 0 cap) 0 [])(ty:TypeId)(b c:Nat)(ps:List Tup8.T8)(h:Tup8.At8 w b ps)(hm:ps.length≤1048576)(hbase:base≤w.heap.size):
  ∃g' c' w',(Builtin.append_ #[42,42] ty #[.slice (some ⟨g,0,none⟩) 0 cap,.slice (some ⟨b,0,none⟩) ps.length c]).run Tryz.prog w= .ok (.slice (some ⟨g',0,none⟩) ps.length c') w'∧w'.ownsRow base 82 8 (.slice (some ⟨g',0,none⟩) ps.length c') ps.length (Tup8.flat8 ps)∧w.grownBy w' (some g)∧(g'=g∨g'=w.heap.size):=by
 obtain⟨i0,hi,hz0,hz1,hz2⟩:=info_parts infoTrade
 exact run_copy w base 42 ty 82 i0 (.agg #[.int .i64 0,.int .i64 0,.int .i64 0,.int .i64 0,.int .i64 0,.int .i64 0,.int .i64 0,.int .i64 0]) 8 64 Tryz.underlying42 hi hz0 hz1 hz2 rfl (by decide) (by decide) g cap hown b ps.length c (Tup8.flat8 ps) (Tup8.flat8_len ps) (cells8 h) (fun u hu=>Tup8.flat8_one u ps hu) hm hbase
end Copy
namespace BalApp
open Bals Triples
theorem info2:(Tryz.prog.info? 184).map (fun i=>(i.zero,i.size,i.bytes))=some (some (.agg #[.int .i64 0,.int .i64 0,.int .i64 0]),3,24):=by kernel_rfl
theorem wp_app(u:World){ops:Array Oper}{rest:List Oper}{o:Oper}{a:Act}{Q:Exit→Act→World→Prop}(hgd:o.guard=none)(s x:Operand)
  (ho:o.op= .call {callee:= .builtin .append,args:= #[s,x],argTypes:= #[40,40]})(base g n cap:Nat)(ps:List T3)(vb:Nat)(p q r:Int)
  (hs:a.eval s= .slice (some ⟨g,0,none⟩) n cap)(hx:a.eval x= .slice (some ⟨vb,0,none⟩) 1 1)(hown:Own3 184 u base g n cap ps)(hv:Holds3 u vb 0 (p,q,r))(hn:n≤1048576)(hb:base≤u.heap.size)
  (h:∀g' c' w',Own3 184 w' base g' (n+1) c' (ps++[(p,q,r)])→u.grownBy w' (some g)→(g'=g∨g'=u.heap.size)→wpList Tryz.prog ops Q rest (a.put o.dst (.slice (some ⟨g',0,none⟩) (n+1) c')) w'):wpList Tryz.prog ops Q (o::rest) a u:=by
 obtain⟨i0,hi,hz0,hz1,hz2⟩:=info_parts info2
 have hat:At3 u vb [(p,q,r)]:=by
  intro i hi
  obtain rfl:i=0:=by simpa using hi
  exact hv
 refine wpList_append_own_at u hgd s x 40 ho base 184 i0 (.agg #[.int .i64 0,.int .i64 0,.int .i64 0]) 3 24 Tryz.underlying40 hi hz0 hz1 hz2 rfl (by decide) _ n _ hs hown ⟨vb,0,none⟩ 1 1 (flat3 [(p,q,r)]) hx rfl hat.cells (fun u hu=>flat3_one u _ hu) (by unfold maxLen;omega) (by omega) hb ?_
 intro v' w' own' gr' nil' loc'
 obtain⟨g',c',rfl,o'⟩:=own3_of_row (n':=n+1) (ps:=ps++[(p,q,r)]) own' rfl (by rw[flat3_append]) (by rw[nil'];simp)
 exact h g' c' w' o' gr' (by simpa[Value.ownBlock] using loc')
theorem wp_copy(u:World){ops:Array Oper}{rest:List Oper}{o:Oper}{a:Act}{Q:Exit→Act→World→Prop}(hgd:o.guard=none)(s x:Operand)
  (ho:o.op= .call {callee:= .builtin .append,args:= #[s,x],argTypes:= #[40,40]})(base g n cap:Nat)(ps:List T3)(vb c:Nat)
  (hs:a.eval s= .slice (some ⟨g,0,none⟩) 0 cap)(hx:a.eval x= .slice (some ⟨vb,0,none⟩) n c)(hown:Own3 184 u base g 0 cap [])(hl:ps.length=n)(hv:At3 u vb ps)(hn:n≤1048576)(hb:base≤u.heap.size)
  (h:∀g' c' w',Own3 184 w' base g' n c' ps→u.grownBy w' (some g)→(g'=g∨g'=u.heap.size)→wpList Tryz.prog ops Q rest (a.put o.dst (.slice (some ⟨g',0,none⟩) n c')) w'):wpList Tryz.prog ops Q (o::rest) a u:=by
 obtain⟨i0,hi,hz0,hz1,hz2⟩:=info_parts info2
 refine wpList_append_own_at u hgd s x 40 ho base 184 i0 (.agg #[.int .i64 0,.int .i64 0,.int .i64 0]) 3 24 Tryz.underlying40 hi hz0 hz1 hz2 rfl (by decide) _ 0 _ hs hown ⟨vb,0,none⟩ n c (flat3 ps) hx (by rw[flat3_len,hl]) hv.cells (fun u hu=>flat3_one u _ hu) (by unfold maxLen;omega) (by omega) hb ?_
 intro v' w' own' gr' nil' loc'
 obtain⟨g',c',rfl,o'⟩:=own3_of_row (n':=n) (ps:=ps) own' (by omega) rfl (by rw[nil'];simp)
 exact h g' c' w' o' gr' (by simpa[Value.ownBlock] using loc')
end BalApp
namespace LotApp
open Tup5
theorem info2:(Tryz.prog.info? 188).map (fun i=>(i.zero,i.size,i.bytes))=some (some (.agg #[.int .i64 0,.int .i64 0,.int .i64 0,.int .i64 0,.int .i64 0]),5,40):=by kernel_rfl
theorem wp_app(u:World){ops:Array Oper}{rest:List Oper}{o:Oper}{a:Act}{Q:Exit→Act→World→Prop}(hgd:o.guard=none)(s x:Operand)
  (ho:o.op= .call {callee:= .builtin .append,args:= #[s,x],argTypes:= #[41,41]})(base g n cap:Nat)(ps:List T5)(vb:Nat)(x0 x1 x2 x3 x4:Int)
  (hs:a.eval s= .slice (some ⟨g,0,none⟩) n cap)(hx:a.eval x= .slice (some ⟨vb,0,none⟩) 1 1)(hown:Own5 188 u base g n cap ps)(hv:Holds5 u vb 0 (x0,x1,x2,x3,x4))(hn:n≤1048576)(hb:base≤u.heap.size)
  (h:∀g' c' w',Own5 188 w' base g' (n+1) c' (ps++[(x0,x1,x2,x3,x4)])→u.grownBy w' (some g)→(g'=g∨g'=u.heap.size)→wpList Tryz.prog ops Q rest (a.put o.dst (.slice (some ⟨g',0,none⟩) (n+1) c')) w'):wpList Tryz.prog ops Q (o::rest) a u:=by
 obtain⟨i0,hi,hz0,hz1,hz2⟩:=info_parts info2
 have hat:At5 u vb [(x0,x1,x2,x3,x4)]:=by
  intro i hi
  obtain rfl:i=0:=by simpa using hi
  exact hv
 refine wpList_append_own_at u hgd s x 41 ho base 188 i0 (.agg #[.int .i64 0,.int .i64 0,.int .i64 0,.int .i64 0,.int .i64 0]) 5 40 Tryz.underlying41 hi hz0 hz1 hz2 rfl (by decide) _ n _ hs hown ⟨vb,0,none⟩ 1 1 (flat5 [(x0,x1,x2,x3,x4)]) hx rfl hat.cells (fun u hu=>flat5_one u _ hu) (by unfold maxLen;omega) (by omega) hb ?_
 intro v' w' own' gr' nil' loc'
 obtain⟨g',c',rfl,o'⟩:=own5_of_row (n':=n+1) (ps:=ps++[(x0,x1,x2,x3,x4)]) own' rfl (by rw[flat5_append]) (by rw[nil'];simp)
 exact h g' c' w' o' gr' (by simpa[Value.ownBlock] using loc')
end LotApp
namespace TradeApp
open Tup8
theorem info2:(Tryz.prog.info? 82).map (fun i=>(i.zero,i.size,i.bytes))=some (some (.agg #[.int .i64 0,.int .i64 0,.int .i64 0,.int .i64 0,.int .i64 0,.int .i64 0,.int .i64 0,.int .i64 0]),8,64):=by kernel_rfl
theorem wp_app(u:World){ops:Array Oper}{rest:List Oper}{o:Oper}{a:Act}{Q:Exit→Act→World→Prop}(hgd:o.guard=none)(s x:Operand)
  (ho:o.op= .call {callee:= .builtin .append,args:= #[s,x],argTypes:= #[42,42]})(base g n cap:Nat)(ps:List T8)(vb:Nat)(x0 x1 x2 x3 x4 x5 x6 x7:Int)
  (hs:a.eval s= .slice (some ⟨g,0,none⟩) n cap)(hx:a.eval x= .slice (some ⟨vb,0,none⟩) 1 1)(hown:Own8 82 u base g n cap ps)(hv:Holds8 u vb 0 (x0,x1,x2,x3,x4,x5,x6,x7))(hn:n≤1048576)(hb:base≤u.heap.size)
  (h:∀g' c' w',Own8 82 w' base g' (n+1) c' (ps++[(x0,x1,x2,x3,x4,x5,x6,x7)])→u.grownBy w' (some g)→(g'=g∨g'=u.heap.size)→wpList Tryz.prog ops Q rest (a.put o.dst (.slice (some ⟨g',0,none⟩) (n+1) c')) w'):wpList Tryz.prog ops Q (o::rest) a u:=by
 obtain⟨i0,hi,hz0,hz1,hz2⟩:=info_parts info2
 have hat:At8 u vb [(x0,x1,x2,x3,x4,x5,x6,x7)]:=by
  intro i hi
  obtain rfl:i=0:=by simpa using hi
  exact hv
 refine wpList_append_own_at u hgd s x 42 ho base 82 i0 (.agg #[.int .i64 0,.int .i64 0,.int .i64 0,.int .i64 0,.int .i64 0,.int .i64 0,.int .i64 0,.int .i64 0]) 8 64 Tryz.underlying42 hi hz0 hz1 hz2 rfl (by decide) _ n _ hs hown ⟨vb,0,none⟩ 1 1 (flat8 [(x0,x1,x2,x3,x4,x5,x6,x7)]) hx rfl hat.cells (fun u hu=>flat8_one u _ hu) (by unfold maxLen;omega) (by omega) hb ?_
 intro v' w' own' gr' nil' loc'
 obtain⟨g',c',rfl,o'⟩:=own8_of_row (n':=n+1) (ps:=ps++[(x0,x1,x2,x3,x4,x5,x6,x7)]) own' rfl (by rw[flat8_append]) (by rw[nil'];simp)
 exact h g' c' w' o' gr' (by simpa[Value.ownBlock] using loc')
end TradeApp
namespace LegApp
open Bals Triples
theorem info2:(Tryz.prog.info? 181).map (fun i=>(i.zero,i.size,i.bytes))=some (some (.agg #[.int .i64 0,.int .i64 0,.int .i64 0]),3,24):=by kernel_rfl
end LegApp
namespace RT11
open SBytes SPut11 SPuts11
theorem getD_mid(l:List Int)(y:Int)(r:List Int)(q:Nat)(h:l.length=q):(l++y::r).getD q 0=y:=by
 subst h
 simp[List.getD]
theorem numF_ne(x:Nat):numF x≠[]:=by
 by_cases t:127<x
 ·rw[numF_more t];simp
 ·rw[numF_last t];simp
theorem getF_num(xs:List Int)(q:Nat):∀(f x k:Nat) (l ys:List Int),xs=l++(numF x++ys)→l.length=q+k→(numF x).length≤f→(x=0→k=0)→
  getF xs q f k=(val xs q k+(x:Int)*128^k,((q+k+(numF x).length:Nat):Int),true):=by
 intro f
 induction f with
 |zero=>
  intro x k l ys _ _ h _
  exact absurd (List.eq_nil_of_length_eq_zero (Nat.le_zero.1 h)) (numF_ne x)
 |succ f ih=>
  intro x k l ys hx hl hf h0
  by_cases t:127<x
  ·rw[numF_more t] at hx hf
   have hb:xs.getD (q+k) 0=((x%128+128:Nat):Int):=by rw[hx];exact getD_mid l _ _ _ hl
   have hlen:q+k<xs.length:=by rw[hx];simp;omega
   simp only[getF]
   rw[if_pos hlen,if_neg (by rw[hb];omega)]
   rw[ih (x/128) (k+1) (l++[((x%128+128:Nat):Int)]) ys (by rw[hx];simp) (by simp;omega) (by simpa using hf) (by omega)]
   have e1:(numF x).length=(numF (x/128)).length+1:=by rw[numF_more t];simp
   have e2:val xs q (k+1)=val xs q k+((x%128:Nat):Int)*128^k:=by
    simp only[val]
    rw[hb,show(((x%128+128:Nat):Int))%128=((x%128:Nat):Int) by omega]
   have e3:((x:Nat):Int)=((x%128:Nat):Int)+((x/128:Nat):Int)*128:=by omega
   rw[e1,e2,pow_more]
   refine Prod.ext ?_ (Prod.ext ?_ rfl)
   ·simp only
    rw[e3,Int.add_mul,Int.mul_assoc,Int.mul_comm (128:Int) (128^k),Int.add_assoc]
   ·simp only
    omega
  ·rw[numF_last t] at hx hf⊢
   have hb:xs.getD (q+k) 0=(x:Int):=by rw[hx];exact getD_mid l _ _ _ hl
   have hlen:q+k<xs.length:=by rw[hx];simp;omega
   simp only[getF]
   rw[if_pos hlen,if_pos (by rw[hb];omega),if_neg (by rw[hb];intro h;have:=h0 (by omega);omega)]
   refine Prod.ext ?_ (Prod.ext ?_ rfl)
   ·simp only[val]
    rw[hb,show(x:Int)%128=x by omega]
   ·simp
theorem getN_num(l ys:List Int)(x:Nat)(hx:x≤9223372036854775807):getN (l++(numF x++ys)) l.length=((x:Int),((l.length+(numF x).length:Nat):Int),true):=by
 have hp:(numF x).length≠0:=fun h=>numF_ne x (List.eq_nil_of_length_eq_zero h)
 unfold getN
 rw[if_neg (by simp;omega)]
 have:=getF_num (l++(numF x++ys)) l.length 9 x 0 l ys rfl rfl (numF_nine hx) (fun _=>rfl)
 rw[show((l.length:Int)).toNat=l.length by omega,this]
 simp[val]
theorem gets_nums:∀(xs l ys acc:List Int),(∀x∈xs,0≤x∧x≤9223372036854775807)→∀zs,zs=l++(xs.flatMap numB++ys)→
  gets zs xs.length l.length acc=(acc++xs,((l.length+(xs.flatMap numB).length:Nat):Int),true)
 |[],l,ys,acc,_,zs,hz=>by simp[gets]
 |x::r,l,ys,acc,h,zs,hz=>by
  obtain⟨x0,x1⟩:=h x (by simp)
  have e:numB x=numF x.toNat:=numB_pos x0
  rw[List.flatMap_cons,e,List.append_assoc] at hz
  have g:=getN_num l (r.flatMap numB++ys) x.toNat (by omega)
  rw[←hz] at g
  simp only[List.length_cons,gets]
  rw[g]
  simp only[if_true]
  have ih:=gets_nums r (l++numF x.toNat) ys (acc++[x]) (fun y hy=>h y (by simp[hy])) zs (by rw[hz];simp)
  rw[show((x.toNat:Nat):Int)=x by omega]
  rw[List.length_append] at ih
  rw[ih]
  refine Prod.ext (by simp) (Prod.ext ?_ rfl)
  simp only
  rw[List.flatMap_cons,e,List.length_append]
  omega
end RT11
namespace SGets11
open SBytes SPut11 SPuts11
theorem l1In_yes(w:World)(x lo hi:Int)(h0:lo≤x)(h1:x≤hi):Calls Tryz.prog 38 #[.int .i64 x,.int .i64 lo,.int .i64 hi] w fun e w'=>e= .returned (.bool true)∧w'=w:=by
 go_enter Tryz.func38,Tryz.ntmps38
 go_wp2
 go_ret
 exact⟨rfl,rfl⟩
theorem l1In_no(w:World)(x lo hi:Int)(h:¬(lo≤x∧x≤hi)):Calls Tryz.prog 38 #[.int .i64 x,.int .i64 lo,.int .i64 hi] w fun e w'=>e= .returned (.bool false)∧w'=w:=by
 by_cases h0:lo≤x
 ·have h1:¬x≤hi:=fun r=>h ⟨h0,r⟩
  clear h
  go_enter Tryz.func38,Tryz.ntmps38
  go_wp2
  go_ret
  exact⟨rfl,rfl⟩
 ·clear h
  go_enter Tryz.func38,Tryz.ntmps38
  go_wp2
  go_ret
  exact⟨rfl,rfl⟩
theorem sGetNums(w:World)(gl cl:Nat)(xs:List Int)(p0 many:Int)(h20:xs.length≤1048576)(hg:gl<w.heap.size)(hr:AtB w gl xs):
  Calls Tryz.prog 26 #[.slice (some ⟨gl,0,none⟩) xs.length cl,.int .i64 p0,.int .i64 many] w fun e w'=>∃g c,e= .returned (.tuple #[.slice (some ⟨g,0,none⟩) (getsN xs p0 many).1.length c,.int .i64 (getsN xs p0 many).2.1,.bool (getsN xs p0 many).2.2])∧Ints.Own w' w.heap.size g (getsN xs p0 many).1.length c (getsN xs p0 many).1∧Below w.heap.size w w':=by
 have O0:=zh (lit0I w w.heap.size (Nat.le_refl _) rfl)
 have B0:=zh (one_more w (.cells #[] 3))
 have R:=zh hr
 have HG:=zh hg
 clear hr hg
 by_cases m0:0≤many∧many≤2000
 case neg=>
  have e:getsN xs p0 many=([],0,false):=if_neg (fun h=>m0 h.1)
  rw[e]
  have M:=zh m0
  clear e m0
  go_enter Tryz.func26,Tryz.ntmps26
  go_wp2_with fail
  refine(l1In_no _ _ _ _ (zu M)).mono ?_
  rintro e u ⟨rfl,rfl⟩
  go_wp2
  go_ret3
  exact⟨_,0,rfl,zu O0,zu B0⟩
 by_cases q0:0≤p0∧p0≤xs.length
 case neg=>
  have e:getsN xs p0 many=([],0,false):=if_neg (fun h=>q0 h.2)
  rw[e]
  have M:=zh m0
  have Q:=zh q0
  clear e m0 q0
  go_enter Tryz.func26,Tryz.ntmps26
  go_wp2_with fail
  refine(l1In_yes _ _ _ _ (zu M).1 (zu M).2).mono ?_
  rintro e u ⟨rfl,rfl⟩
  go_wp2_with fail
  refine(l1In_no _ _ _ _ (zu Q)).mono ?_
  rintro e u ⟨rfl,rfl⟩
  go_wp2
  go_ret3
  exact⟨_,0,rfl,zu O0,zu B0⟩
 obtain⟨n,rfl⟩:∃n:Nat,many=n:=⟨many.toNat,by omega⟩
 have E0:=zh (show getsN xs p0 n=gets xs n p0 [] from by unfold getsN;rw[if_pos ⟨m0,q0⟩];simp)
 have n2:n≤2000:=by omega
 have M:=zh m0
 have Q:=zh q0
 clear m0 q0
 generalize getsN xs p0 n=r at *
 obtain⟨r0,r1,r2⟩:=r
 go_enter Tryz.func26,Tryz.ntmps26
 go_wp2_with fail
 refine(l1In_yes _ _ _ _ (zu M).1 (zu M).2).mono ?_
 rintro e u ⟨rfl,rfl⟩
 go_wp2_with fail
 refine(l1In_yes _ _ _ _ (zu Q).1 (zu Q).2).mono ?_
 rintro e u ⟨rfl,rfl⟩
 go_wp2
 clear M Q
 go_loopw [1,9,10] (fun a l i wr=>∃(p:Int) (q:List Int) (g c k:Nat),a= .int .i64 p∧l= .slice (some ⟨g,0,none⟩) q.length c∧i= .int .i64 k∧k≤n∧q.length≤k∧Hid ((r0,r1,r2)=gets xs (n-k) p q)∧Hid (Ints.Own wr w.heap.size g q.length c q)∧Hid (Below w.heap.size w wr)) (fun _ _ i _=>n-(intOf i).toNat)
 case atStart=>exact⟨p0,[],w.heap.size,0,0,rfl,rfl,rfl,by omega,by simp,E0,O0,B0⟩
 case round=>
  clear O0 B0 E0
  obtain⟨p,q,g,c,k,rfl,rfl,rfl,hk,ql,HE,HO,HB⟩:=hrel
  have bs:=(zu HB).size
  have og:=(zu HO).lt
  by_cases t:k<n
  ·have NX:=zh (show(r0,r1,r2)=if(getN xs p).2.2=true then gets xs (n-(k+1)) (getN xs p).2.1 (q++[(getN xs p).1]) else([],0,false) from by
    rw[zu HE,show n-k=(n-(k+1))+1 by omega]
    rfl)
   have kn:(k:Int)<n:=by omega
   clear HE
   go_wp2_with fail
   refine(sGetNum _ gl cl xs p h20 (AtB.below (zu R) (zu HB) (zu HG))).mono ?_
   rintro e u ⟨rfl,rfl⟩
   generalize getN xs p=y at *
   obtain⟨y0,y1,y2⟩:=y
   cases y2 with
   |false=>
    have F:=zu NX
    rw[if_neg (by simp)] at F
    injection F with F0 F
    injection F with F1 F2
    subst F0 F1 F2
    have O5:=zh (lit0I u w.heap.size bs rfl)
    have B5:=zh ((zu HB).alloc bs (.cells #[] 3))
    clear NX
    go_wp2
    go_ret3
    exact⟨_,0,rfl,zu O5,zu B5⟩
   |true=>
    have N1:=zh (show(r0,r1,r2)=gets xs (n-(k+1)) y1 (q++[y0]) from by rw[zu NX,if_pos rfl])
    clear NX
    go_wp2_with (first|(at_builtin;refine wp_appI _ rfl _ _ rfl w.heap.size g q.length c q u.heap.size y0 rfl rfl (own_allocI (zu HO) _) (by simp) (by omega) (by simp;omega) ?_)|go_in)
    intro g5 c5 w5 o5 gr5 loc5
    have O5:=zh o5
    have B5:=zh (((zu HB).alloc (by omega) (.cells #[.int .i64 y0] 3)).grown gr5 (by simp;omega) (fun j hj=>by cases hj;exact og.1))
    clear o5 gr5 loc5
    go_wp2
    go_roundw
    case rel=>exact⟨y1,q++[y0],g5,c5,k+1,rfl,by rw[show(q++[y0]).length=q.length+1 by simp],by go_num,by omega,by simp;omega,N1,zh (by rw[show(q++[y0]).length=q.length+1 by simp];exact zu O5),B5⟩
    case measure=>simp[intOf];omega
  ·have e:k=n:=by omega
   subst e
   have F:=zu HE
   rw[Nat.sub_self] at F
   simp only[gets] at F
   injection F with F0 F
   injection F with F1 F2
   subst F0 F1 F2
   clear HE
   go_wp2
   go_ret3
   exact⟨g,c,rfl,zu HO,zu HB⟩
end SGets11
namespace IPuts11
open SBytes SPut11 SPuts11
open ByteH (Own At)
theorem iForm(w:World)(base g0 c0 n0:Nat)(p0:List Int)(x0:Int)(h0:0≤x0)(hx:x0≤9223372036854775807)(hn:n0≤100000000)(hb:base≤w.heap.size)(ho:Own w base g0 n0 c0 p0):
  Calls Tryz.prog 63 #[.slice (some ⟨g0,0,none⟩) n0 c0,.int .i64 x0] w fun e w'=>∃g c,e= .returned (.slice (some ⟨g,0,none⟩) (n0+(numF x0.toNat).length) c)∧Own w' base g (n0+(numF x0.toNat).length) c (p0++numF x0.toNat)∧Below base w w':=by
 have O0:=zh (show Own w base g0 (n0+([]:List Int).length) c0 (p0++[]) from by simpa using ho)
 have B0:=zh (Below.refl base w)
 have L:=zh (numF_nine (x:=x0.toNat) (by omega))
 obtain⟨r,hr⟩:∃r,Hid (numF x0.toNat=r):=⟨_,rfl⟩
 rw[zu hr] at L⊢
 have S0:=zh (show([]:List Int)++numF x0.toNat=r from zu hr)
 clear hr ho
 go_enter Tryz.func63,Tryz.ntmps63
 go_wp2
 go_loopw [0,1] (fun l a wr=>∃(x:Int) (p:List Int) (g c n:Nat),a= .int .i64 x∧l= .slice (some ⟨g,0,none⟩) n c∧n=n0+p.length∧0≤x∧x≤9223372036854775807∧Hid (p++numF x.toNat=r)∧Hid (Own wr base g n c (p0++p))∧Hid (Below base w wr)) (fun _ a _=>(intOf a).toNat)
 case atStart=>exact⟨x0,[],g0,c0,n0,rfl,rfl,by simp,h0,hx,S0,O0,B0⟩
 case round=>
  clear O0 B0 S0 hx h0
  obtain⟨x,p,g,c,n,rfl,rfl,hnp,x1,x2,HR,HO,HB⟩:=hrel
  have bs:=(zu HB).size
  have pl:p.length≤9:=by have a:=zu L;rw[←zu HR] at a;simp at a;omega
  have nl:n≤100000009:=by omega
  have HN:=zh hnp
  have og:=(zu HO).lt
  have HX:=zh (And.intro x1 x2)
  clear hnp
  by_cases t:127<x
  ·have N:=zh (show(p++[x%128+128])++numF (x/128).toNat=r from by
    rw[←zu HR,numF_more (x:=x.toNat) (by omega),List.append_assoc]
    have e1:((x.toNat%128+128:Nat):Int)=x%128+128:=by omega
    have e2:x.toNat/128=(x/128).toNat:=by omega
    rw[e1,e2];rfl)
   clear HR x1 x2
   go_wp2_with (first|(at_builtin;refine wp_catB _ rfl _ _ rfl base g n c 1 (p0++p) [x%128+128] wr.heap.size 0 1 rfl rfl (own_alloc (zu HO) _) rfl (lit_one _ _) (by omega) (by simp;omega) ?_)|go_in)
   intro g5 c5 w5 o5 gr5 loc5
   have O5:=zh o5
   have B5:=zh (((zu HB).alloc (by omega) (.cells #[.int .u8 (x%128+128)] 5)).grown gr5 (by simp;omega) (fun j hj=>by cases hj;exact og.1))
   clear o5 gr5 loc5
   go_wp2
   go_roundw
   case rel=>
    have xx:=zu HX
    exact⟨x/128,p++[x%128+128],g5,c5,n+1,by simp,rfl,by have:=zu HN;simp;omega,by omega,by omega,N,O5,B5⟩
   case measure=>
    have xx:=zu HX
    simp[intOf]
    omega
  ·have N:=zh (show p++[x]=r from by
    rw[←zu HR,numF_last (x:=x.toNat) (by omega)]
    have e1:((x.toNat:Nat):Int)=x:=by omega
    rw[e1])
   clear HR
   go_wp2_with (first|(at_builtin;refine wp_catB _ rfl _ _ rfl base g n c 1 (p0++p) [x] wr.heap.size 0 1 rfl rfl (own_alloc (zu HO) _) rfl (lit_one _ _) (by omega) (by simp;omega) ?_)|go_in)
   intro g5 c5 w5 o5 gr5 loc5
   have O5:=zh o5
   have B5:=zh (((zu HB).alloc (by omega) (.cells #[.int .u8 x] 5)).grown gr5 (by simp;omega) (fun j hj=>by cases hj;exact og.1))
   clear o5 gr5 loc5
   go_wp2
   go_ret
   have e:=zu N
   have e1:n0+r.length=n+1:=by rw[←e,zu HN];simp;omega
   exact⟨g5,c5,by rw[e1];rfl,by rw[e1,←e];exact zu O5,zu B5⟩
theorem iPutNums(w:World)(gl cl:Nat)(xs:List Int)(h20:xs.length≤1048576)(hg:gl<w.heap.size)(hr:Ints.At w gl xs)(hi:∀i,i<xs.length→xs.getD i 0≤9223372036854775807):
  Calls Tryz.prog 37 #[.slice (some ⟨gl,0,none⟩) xs.length cl] w fun e w'=>∃a c,e= .returned (.slice a (numsB xs).length c)∧VOB.Ob w' w.heap.size a (numsB xs).length c (numsB xs)∧Below w.heap.size w w':=by
 have O0:=zh (lit0 w w.heap.size (Nat.le_refl _) rfl)
 have B0:=zh (one_more w (.cells #[] 5))
 have R:=zh hr
 have HI:=zh hi
 have HG:=zh hg
 obtain⟨r,hq⟩:∃r,Hid (numsB xs=r):=⟨_,rfl⟩
 rw[zu hq]
 clear hr hi hg
 go_enter Tryz.func37,Tryz.ntmps37
 go_wp2
 go_loopw [3,5,9] (fun l _ a wr=>∃(k g c n:Nat),a= .int .i64 k∧k≤xs.length∧l= .slice (some ⟨g,0,none⟩) n c∧n≤9*k∧Hid (n=((xs.take k).flatMap numB).length)∧Hid (∀i,i<k→0≤xs.getD i 0)∧Hid (Own wr w.heap.size g n c ((xs.take k).flatMap numB))∧Hid (Below w.heap.size w wr)) (fun _ _ a _=>xs.length-(intOf a).toNat)
 case atStart=>exact⟨0,w.heap.size,0,0,rfl,by omega,rfl,by omega,zh (by simp),zh (fun i h=>absurd h (by omega)),zh (by simpa using zu O0),B0⟩
 case round=>
  clear O0 B0
  obtain⟨k,g,c,n,rfl,hk,rfl,nk,HN,HP,HO,HB⟩:=hrel
  have bs:=(zu HB).size
  by_cases t:k<xs.length
  ·have d:=(((zu R).below (zu HB) (zu HG)) k t)
   have NX:=zh (flat_next t)
   have HX:=zh ((zu HI) k t)
   have SG:=zh (show 0≤xs.getD k 0→∀i,i<k+1→0≤xs.getD i 0 from fun h i hi=>by
    by_cases e:i=k
    ·subst e;exact h
    ·exact(zu HP) i (by omega))
   have BAD:=zh (show xs.getD k 0<0→r=[] from fun h=>by rw[←zu hq];exact if_neg (fun a=>by have:=a k t;omega))
   clear HP
   generalize xs.getD k 0=y at *
   have kx:(k:Int)<xs.length:=by omega
   by_cases y0:y<0
   ·have e:=(zu BAD) y0
    subst e
    have O5:=zh (lit0 wr w.heap.size bs rfl)
    have B5:=zh ((zu HB).alloc bs (.cells #[] 5))
    clear BAD SG NX HX hq HI R
    go_wp2
    go_ret
    exact⟨_,0,rfl,.of (zu O5),zu B5⟩
   ·have S1:=zh ((zu SG) (by omega))
    have NB:=zh (numB_pos (x:=y) (by omega))
    have nine:=numB_nine (zu HX)
    rw[zu NB] at nine
    have y1:0≤y:=by omega
    have FM:=zh (iForm wr w.heap.size g c n _ y y1 (zu HX) (by omega) bs (zu HO))
    clear BAD SG
    go_wp2_with fail
    refine(zu FM).mono ?_
    rintro e u ⟨g5,c5,rfl,o5,b5⟩
    have O5:=zh o5
    have B5:=zh ((zu HB).trans b5)
    clear o5 b5 FM HO
    go_wp2
    go_roundw
    case rel=>exact⟨k+1,g5,c5,n+(numF y.toNat).length,by go_num,by omega,rfl,by omega,zh (by rw[zu NX,List.length_append,←zu HN,zu NB]),S1,zh (by rw[zu NX,zu NB];exact zu O5),B5⟩
    case measure=>simp[intOf];omega
  ·have e:k=xs.length:=by omega
   subst e
   have E:=zh (show xs.flatMap numB=r from by rw[←zu hq];exact(if_pos (zu HP)).symm)
   have N:=zu HN
   have O:=zu HO
   rw[List.take_length] at N O
   rw[zu E] at N O
   have O5:=zh O
   have N5:=zh N
   clear N O HN HO HP
   go_wp2
   go_ret
   have e:=zu N5
   subst e
   exact⟨_,c,rfl,.of (zu O5),zu HB⟩
end IPuts11
end Go.Proofs.YtcjgepkdpkhljaaGreat
