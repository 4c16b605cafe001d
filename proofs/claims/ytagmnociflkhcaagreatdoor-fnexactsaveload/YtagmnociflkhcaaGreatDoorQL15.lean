/- Texts of one proof, one behind the other: LotApp, SPut11, SPuts11, SGets11, SRows13. -/
import Derived.Test.YtagmnociflkhcaaGreatDoorRows
import Derived.Test.YtagmnociflkhcaaGreatDoorCards
import Derived.Test.YtagmnociflkhcaaGreatDoorTie
import Derived.Test.YtagmnociflkhcaaGreatDoorQL0
import Derived.Test.YtagmnociflkhcaaGreatDoorQL1
import Derived.Maps.AppendAt
set_option linter.unusedVariables false
set_option linter.unusedSimpArgs false
open Go.ChangeShapes Go.WideShapes Go.ChangeAt Go.RowKit
set_option maxRecDepth 100000
set_option maxHeartbeats 32000000
namespace Go.Proofs.YtagmnociflkhcaaGreatDoor
namespace LotApp
open Tup5
theorem info2:(Tryz.prog.info? 80).map (fun i=>(i.zero,i.size,i.bytes))=some (some (.agg #[.int .i64 0,.int .i64 0,.int .i64 0,.int .i64 0,.int .i64 0]),5,40):=by kernel_rfl
theorem wp_app(u:World){ops:Array Oper}{rest:List Oper}{o:Oper}{a:Act}{Q:Exit→Act→World→Prop}(hgd:o.guard=none)(s x:Operand)
  (ho:o.op= .call {callee:= .builtin .append,args:= #[s,x],argTypes:= #[29,29]})(base g n cap:Nat)(ps:List T5)(vb:Nat)(x0 x1 x2 x3 x4:Int)
  (hs:a.eval s= .slice (some ⟨g,0,none⟩) n cap)(hx:a.eval x= .slice (some ⟨vb,0,none⟩) 1 1)(hown:Own5 80 u base g n cap ps)(hv:Holds5 u vb 0 (x0,x1,x2,x3,x4))(hn:n≤1048576)(hb:base≤u.heap.size)
  (h:∀g' c' w',Own5 80 w' base g' (n+1) c' (ps++[(x0,x1,x2,x3,x4)])→u.grownBy w' (some g)→(g'=g∨g'=u.heap.size)→wpList Tryz.prog ops Q rest (a.put o.dst (.slice (some ⟨g',0,none⟩) (n+1) c')) w'):wpList Tryz.prog ops Q (o::rest) a u:=by
 obtain⟨i0,hi,hz0,hz1,hz2⟩:=info_parts info2
 have hat:At5 u vb [(x0,x1,x2,x3,x4)]:=by
  intro i hi
  obtain rfl:i=0:=by simpa using hi
  exact hv
 refine wpList_append_own_at u hgd s x 29 ho base 80 i0 (.agg #[.int .i64 0,.int .i64 0,.int .i64 0,.int .i64 0,.int .i64 0]) 5 40 Tryz.underlying29 hi hz0 hz1 hz2 rfl (by decide) _ n _ hs hown ⟨vb,0,none⟩ 1 1 (flat5 [(x0,x1,x2,x3,x4)]) hx rfl hat.cells (fun u hu=>flat5_one u _ hu) (by unfold maxLen;omega) (by omega) hb ?_
 intro v' w' own' gr' nil' loc'
 obtain⟨g',c',rfl,o'⟩:=own5_of_row (n':=n+1) (ps:=ps++[(x0,x1,x2,x3,x4)]) own' rfl (by rw[flat5_append]) (by rw[nil'];simp)
 exact h g' c' w' o' gr' (by simpa[Value.ownBlock] using loc')
end LotApp
namespace SPut11
open SBytes
open ByteH (Own At)
theorem own_of_row{w:World}{base n n':Nat}{v:Value}{vs:List Value}{xs:List Int}(h:w.ownsRow base 5 1 v n vs)(hn:n=n')(e:vs=xs.map (Value.int .u8))(hv:¬v= .slice none 0 0):
  ∃g c,v= .slice (some ⟨g,0,none⟩) n' c∧Own w base g n' c xs:=by
 subst hn e
 have h':=h
 rcases h.2 with⟨h1,_⟩|⟨g,c,cur,rfl,_⟩
 ·exact absurd h1 hv
 ·exact⟨g,c,rfl,h'⟩
theorem lit0(w:World)(base:Nat){g:Nat}(hb:base≤w.heap.size)(hg:g=w.heap.size):Own (w.alloc (.cells #[] 5)) base g 0 0 []:=by
 subst hg
 exact World.ownsRow_lit w #[] 0 hb (by decide) rfl
def AtO(w:World)(g o:Nat)(xs:List Int):Prop:=∀i,i<xs.length→w.cell? ⟨g,o+i,none⟩=some (.int .u8 (xs.getD i 0))
theorem AtO.of{w:World}{g:Nat}{xs:List Int}(h:At w g xs):AtO w g 0 xs:=fun i hi=>by rw[Nat.zero_add];exact h i hi
theorem wp_catB(u:World){ops:Array Oper}{rest:List Oper}{o:Oper}{a:Act}{Q:Exit→Act→World→Prop}(hgd:o.guard=none)(s x:Operand)
  (ho:o.op= .call {callee:= .builtin .append,args:= #[s,x],argTypes:= #[49,49]})(base g n cap m:Nat)(xs ys:List Int)(vb off c:Nat)
  (hs:a.eval s= .slice (some ⟨g,0,none⟩) n cap)(hx:a.eval x= .slice (some ⟨vb,off,none⟩) m c)(hown:Own u base g n cap xs)(hl:ys.length=m)(hv:AtO u vb off ys)(hn:n+m≤9223372036854)(hb:base≤u.heap.size)
  (h:∀g' c' w',Own w' base g' (n+m) c' (xs++ys)→u.grownBy w' (some g)→(g'=g∨g'=u.heap.size)→wpList Tryz.prog ops Q rest (a.put o.dst (.slice (some ⟨g',0,none⟩) (n+m) c')) w'):wpList Tryz.prog ops Q (o::rest) a u:=by
 obtain⟨i0,hi,hz0,hz1,hz2⟩:=info_parts ByteH.info8
 refine wpList_append_own_at u hgd s x 49 ho base 5 i0 (.int .u8 0) 1 1 Tryz.underlying49 hi hz0 hz1 hz2 rfl (by decide) _ n _ hs hown ⟨vb,off,none⟩ m c (ys.map (Value.int .u8)) hx (by simp[hl]) (fun j v hj=>by
  have hj':j<ys.length:=by
   have:=(List.getElem?_eq_some_iff.1 hj).1
   simpa using this
  have:=hv j hj'
  rw[Addr.add_lit,this]
  rw[←hj]
  simp[List.getD,hj']) (by intro u hu;obtain⟨y,_,rfl⟩:=List.mem_map.1 hu;simp[Value.oneCell']) (by unfold maxLen;omega) (by omega) hb ?_
 intro v' w' own' gr' nil' loc'
 obtain⟨g',c',rfl,o'⟩:=own_of_row (n':=n+m) (xs:=xs++ys) own' rfl (by simp) (by rw[nil'];simp)
 exact h g' c' w' o' gr' (by simpa[Value.ownBlock] using loc')
theorem one_more(w:World)(o:Obj):Below w.heap.size w (w.alloc o):=(Below.refl _ _).alloc (Nat.le_refl _) _
end SPut11
namespace SPuts11
open SBytes SPut11
open ByteH (Own At)
theorem own_of_rowI{w:World}{base n n':Nat}{v:Value}{vs:List Value}{xs:List Int}(h:w.ownsRow base 3 1 v n vs)(hn:n=n')(e:vs=xs.map (Value.int .i64))(hv:¬v= .slice none 0 0):
  ∃g c,v= .slice (some ⟨g,0,none⟩) n' c∧Ints.Own w base g n' c xs:=by
 subst hn e
 have h':=h
 rcases h.2 with⟨h1,_⟩|⟨g,c,cur,rfl,_⟩
 ·exact absurd h1 hv
 ·exact⟨g,c,rfl,h'⟩
theorem own_allocI{w:World}{base g n cap:Nat}{xs:List Int}(h:Ints.Own w base g n cap xs)(o:Obj):Ints.Own (w.alloc o) base g n cap xs:=World.ownsRow.alloc h o
theorem lit0I(w:World)(base:Nat){g:Nat}(hb:base≤w.heap.size)(hg:g=w.heap.size):Ints.Own (w.alloc (.cells #[] 3)) base g 0 0 []:=by
 subst hg
 exact World.ownsRow_lit w #[] 0 hb (by decide) rfl
theorem wp_appI(u:World){ops:Array Oper}{rest:List Oper}{o:Oper}{a:Act}{Q:Exit→Act→World→Prop}(hgd:o.guard=none)(s x:Operand)
  (ho:o.op= .call {callee:= .builtin .append,args:= #[s,x],argTypes:= #[70,70]})(base g n cap:Nat)(xs:List Int)(vb:Nat)(y:Int)
  (hs:a.eval s= .slice (some ⟨g,0,none⟩) n cap)(hx:a.eval x= .slice (some ⟨vb,0,none⟩) 1 1)(hown:Ints.Own u base g n cap xs)(hv:u.cell? ⟨vb,0,none⟩=some (.int .i64 y))(hn:n≤1048576)(hb:base≤u.heap.size)
  (h:∀g' c' w',Ints.Own w' base g' (n+1) c' (xs++[y])→u.grownBy w' (some g)→(g'=g∨g'=u.heap.size)→wpList Tryz.prog ops Q rest (a.put o.dst (.slice (some ⟨g',0,none⟩) (n+1) c')) w'):wpList Tryz.prog ops Q (o::rest) a u:=by
 obtain⟨i0,hi,hz0,hz1,hz2⟩:=info_parts Ints.info3
 refine wpList_append_own_at u hgd s x 70 ho base 3 i0 (.int .i64 0) 1 8 Tryz.underlying70 hi hz0 hz1 hz2 rfl (by decide) _ n _ hs hown ⟨vb,0,none⟩ 1 1 [.int .i64 y] hx rfl (fun j v hj=>by
  cases j with
  |zero=>
   have e:v= .int .i64 y:=by simpa using hj.symm
   rw[e]
   simpa[Addr.add] using hv
  |succ j=>simp at hj) (by simp[Value.oneCell']) (by unfold maxLen;omega) (by omega) hb ?_
 intro v' w' own' gr' nil' loc'
 obtain⟨g',c',rfl,o'⟩:=own_of_rowI (n':=n+1) (xs:=xs++[y]) own' rfl (by simp) (by rw[nil'];simp)
 exact h g' c' w' o' gr' (by simpa[Value.ownBlock] using loc')
def gets(xs:List Int):Nat→Int→List Int→List Int×Int×Bool
 |0,p,l=>(l,p,true)
 |m+1,p,l=>if(getN xs p).2.2=true then gets xs m (getN xs p).2.1 (l++[(getN xs p).1]) else([],0,false)
def getsN(xs:List Int)(p many:Int):List Int×Int×Bool:=
 if(0≤many∧many≤2000)∧0≤p∧p≤xs.length then gets xs many.toNat p [] else([],0,false)
end SPuts11
namespace SGets11
open SBytes SPut11 SPuts11
theorem l1In_yes(w:World)(x lo hi:Int)(h0:lo≤x)(h1:x≤hi):Calls Tryz.prog 34 #[.int .i64 x,.int .i64 lo,.int .i64 hi] w fun e w'=>e= .returned (.bool true)∧w'=w:=by
 go_enter Tryz.func34,Tryz.ntmps34
 go_wp2
 go_ret
 exact⟨rfl,rfl⟩
theorem l1In_no(w:World)(x lo hi:Int)(h:¬(lo≤x∧x≤hi)):Calls Tryz.prog 34 #[.int .i64 x,.int .i64 lo,.int .i64 hi] w fun e w'=>e= .returned (.bool false)∧w'=w:=by
 by_cases h0:lo≤x
 ·have h1:¬x≤hi:=fun r=>h ⟨h0,r⟩
  clear h
  go_enter Tryz.func34,Tryz.ntmps34
  go_wp2
  go_ret
  exact⟨rfl,rfl⟩
 ·clear h
  go_enter Tryz.func34,Tryz.ntmps34
  go_wp2
  go_ret
  exact⟨rfl,rfl⟩
section
variable {oz:Nat}
theorem sGetNumsO(w:World)(gl cl:Nat)(xs:List Int)(p0 many:Int)(h20:xs.length≤1048576)(hg:gl<w.heap.size)(hr:AtBO w gl oz xs):
  Calls Tryz.prog 65 #[.slice (some ⟨gl,oz,none⟩) xs.length cl,.int .i64 p0,.int .i64 many] w fun e w'=>∃g c,e= .returned (.tuple #[.slice (some ⟨g,0,none⟩) (getsN xs p0 many).1.length c,.int .i64 (getsN xs p0 many).2.1,.bool (getsN xs p0 many).2.2])∧Ints.Own w' w.heap.size g (getsN xs p0 many).1.length c (getsN xs p0 many).1∧Below w.heap.size w w':=by
 have O0:=zh (lit0I w w.heap.size (Nat.le_refl _) rfl)
 have B0:=zh (one_more w (.cells #[] 3))
 have R:=zh hr
 have HG:=zh hg
 clear hr hg
 by_cases m0:0≤many∧many≤2000
 case neg=>
  have e:getsN xs p0 many=([],0,false):=if_neg (fun h=>m0 h.1)
  rw[e]
  have M:=zh m0
  clear e m0
  go_enter Tryz.func65,Tryz.ntmps65
  go_wp2_with fail
  refine(l1In_no _ _ _ _ (zu M)).mono ?_
  rintro e u ⟨rfl,rfl⟩
  go_wp2
  go_ret3
  exact⟨_,0,rfl,zu O0,zu B0⟩
 by_cases q0:0≤p0∧p0≤xs.length
 case neg=>
  have e:getsN xs p0 many=([],0,false):=if_neg (fun h=>q0 h.2)
  rw[e]
  have M:=zh m0
  have Q:=zh q0
  clear e m0 q0
  go_enter Tryz.func65,Tryz.ntmps65
  go_wp2_with fail
  refine(l1In_yes _ _ _ _ (zu M).1 (zu M).2).mono ?_
  rintro e u ⟨rfl,rfl⟩
  go_wp2_with fail
  refine(l1In_no _ _ _ _ (zu Q)).mono ?_
  rintro e u ⟨rfl,rfl⟩
  go_wp2
  go_ret3
  exact⟨_,0,rfl,zu O0,zu B0⟩
 obtain⟨n,rfl⟩:∃n:Nat,many=n:=⟨many.toNat,by omega⟩
 have E0:=zh (show getsN xs p0 n=gets xs n p0 [] from by unfold getsN;rw[if_pos ⟨m0,q0⟩];simp)
 have n2:n≤2000:=by omega
 have M:=zh m0
 have Q:=zh q0
 clear m0 q0
 generalize getsN xs p0 n=r at *
 obtain⟨r0,r1,r2⟩:=r
 go_enter Tryz.func65,Tryz.ntmps65
 go_wp2_with fail
 refine(l1In_yes _ _ _ _ (zu M).1 (zu M).2).mono ?_
 rintro e u ⟨rfl,rfl⟩
 go_wp2_with fail
 refine(l1In_yes _ _ _ _ (zu Q).1 (zu Q).2).mono ?_
 rintro e u ⟨rfl,rfl⟩
 go_wp2
 clear M Q
 go_loopw [1,9,10] (fun a l i wr=>∃(p:Int) (q:List Int) (g c k:Nat),a= .int .i64 p∧l= .slice (some ⟨g,0,none⟩) q.length c∧i= .int .i64 k∧k≤n∧q.length≤k∧Hid ((r0,r1,r2)=gets xs (n-k) p q)∧Hid (Ints.Own wr w.heap.size g q.length c q)∧Hid (Below w.heap.size w wr)) (fun _ _ i _=>n-(intOf i).toNat)
 case atStart=>exact⟨p0,[],w.heap.size,0,0,rfl,rfl,rfl,by omega,by simp,E0,O0,B0⟩
 case round=>
  clear O0 B0 E0
  obtain⟨p,q,g,c,k,rfl,rfl,rfl,hk,ql,HE,HO,HB⟩:=hrel
  have bs:=(zu HB).size
  have og:=(zu HO).lt
  by_cases t:k<n
  ·have NX:=zh (show(r0,r1,r2)=if(getN xs p).2.2=true then gets xs (n-(k+1)) (getN xs p).2.1 (q++[(getN xs p).1]) else([],0,false) from by
    rw[zu HE,show n-k=(n-(k+1))+1 by omega]
    rfl)
   have kn:(k:Int)<n:=by omega
   clear HE
   go_wp2_with fail
   refine(sGetNumO _ gl oz cl xs p h20 (AtBO.below (zu R) (zu HB) (zu HG))).mono ?_
   rintro e u ⟨rfl,rfl⟩
   generalize getN xs p=y at *
   obtain⟨y0,y1,y2⟩:=y
   cases y2 with
   |false=>
    have F:=zu NX
    rw[if_neg (by simp)] at F
    injection F with F0 F
    injection F with F1 F2
    subst F0 F1 F2
    have O5:=zh (lit0I u w.heap.size bs rfl)
    have B5:=zh ((zu HB).alloc bs (.cells #[] 3))
    clear NX
    go_wp2
    go_ret3
    exact⟨_,0,rfl,zu O5,zu B5⟩
   |true=>
    have N1:=zh (show(r0,r1,r2)=gets xs (n-(k+1)) y1 (q++[y0]) from by rw[zu NX,if_pos rfl])
    clear NX
    go_wp2_with (first|(at_builtin;refine wp_appI _ rfl _ _ rfl w.heap.size g q.length c q u.heap.size y0 rfl rfl (own_allocI (zu HO) _) (by simp) (by omega) (by simp;omega) ?_)|go_in)
    intro g5 c5 w5 o5 gr5 loc5
    have O5:=zh o5
    have B5:=zh (((zu HB).alloc (by omega) (.cells #[.int .i64 y0] 3)).grown gr5 (by simp;omega) (fun j hj=>by cases hj;exact og.1))
    clear o5 gr5 loc5
    go_wp2
    go_roundw
    case rel=>exact⟨y1,q++[y0],g5,c5,k+1,rfl,by rw[show(q++[y0]).length=q.length+1 by simp],by go_num,by omega,by simp;omega,N1,zh (by rw[show(q++[y0]).length=q.length+1 by simp];exact zu O5),B5⟩
    case measure=>simp[intOf];omega
  ·have e:k=n:=by omega
   subst e
   have F:=zu HE
   rw[Nat.sub_self] at F
   simp only[gets] at F
   injection F with F0 F
   injection F with F1 F2
   subst F0 F1 F2
   clear HE
   go_wp2
   go_ret3
   exact⟨g,c,rfl,zu HO,zu HB⟩
end
end SGets11
namespace SRows13
open SBytes SPut11 SPuts11 SGets11
def rowsL(xs:List Int)(wide:Nat):Nat→Int→List (List Int)→List (List Int)×Int×Bool
 |0,p,l=>(l,p,true)
 |m+1,p,l=>if(getsN xs p wide).2.2=true then rowsL xs wide m (getsN xs p wide).2.1 (l++[(getsN xs p wide).1]) else(l,0,false)
def rowsN(xs:List Int)(p:Int)(wide:Nat)(most:Int):List (List Int)×Int×Bool:=
 if(getN xs p).2.2=true∧(getN xs p).1≤most then rowsL xs wide (getN xs p).1.toNat (getN xs p).2.1 [] else([],0,false)
def RowAt(w:World)(lo g:Nat)(rs:List (List Int)):Prop:=
 ∀i,i<rs.length→∃gi ci,lo≤gi∧w.cell? ⟨g,i,none⟩=some (.slice (some ⟨gi,0,none⟩) (rs.getD i []).length ci)∧gi<w.heap.size∧Ints.At w gi (rs.getD i [])
theorem RowAt.below{w w':World}{lo g B:Nat}{rs:List (List Int)}(h:RowAt w lo g rs)(k:Below w.heap.size w w')(hg:g<w.heap.size):RowAt w' lo g rs:=fun i hi=>by
 obtain⟨gi,ci,l,a,b,c⟩:=h i hi
 exact⟨gi,ci,l,(k.cell (p:=⟨g,i,none⟩) hg).trans a,Nat.lt_of_lt_of_le b k.size,c.below k b⟩
theorem infoS:(Tryz.prog.info? 70).map (fun i=>(i.zero,i.size,i.bytes))=some (some (.slice none 0 0),1,24):=by kernel_rfl
structure Rws(w:World)(base g n c:Nat)(rs:List (List Int))(vs:List Value):Prop where
 o:w.ownsRow base 70 1 (.slice (some ⟨g,0,none⟩) n c) n vs
 l:vs.length=n
 m:rs.length=n
 r:∀i,i<n→∃gi ci,base≤gi∧vs[i]?=some (.slice (some ⟨gi,0,none⟩) (rs.getD i []).length ci)∧gi≠g∧gi<w.heap.size∧Ints.At w gi (rs.getD i [])
theorem Rws.lt{w:World}{base g n c:Nat}{rs:List (List Int)}{vs:List Value}(h:Rws w base g n c rs vs):base≤g∧g<w.heap.size:=World.ownsRow.lt h.o g rfl
theorem Rws.below{w w':World}{base g n c:Nat}{rs:List (List Int)}{vs:List Value}(h:Rws w base g n c rs vs)(k:Below w.heap.size w w'):Rws w' base g n c rs vs:=by
 refine⟨⟨h.o.1,?_⟩,h.l,h.m,fun i hi=>?_⟩
 ·rcases h.o.2 with⟨h1,_⟩|⟨g',c',cur,h1,h2,h3,h4⟩
  ·simp at h1
  ·obtain⟨e,_⟩:g=g'∧c=c':=by simpa using h1
   subst e
   exact Or.inr ⟨g,c',cur,h1,h2,by rw[k.block g h.lt.2];exact h3,h4⟩
 ·obtain⟨gi,ci,l,a,b,d,e⟩:=h.r i hi
  exact⟨gi,ci,l,a,b,Nat.lt_of_lt_of_le d k.size,e.below k d⟩
theorem Rws.at{w:World}{base g n c:Nat}{rs:List (List Int)}{vs:List Value}(h:Rws w base g n c rs vs):RowAt w base g rs:=fun i hi=>by
 obtain⟨gi,ci,l,a,b,d,e⟩:=h.r i (by rw[←h.m];exact hi)
 refine⟨gi,ci,l,?_,d,e⟩
 have hl:=h.l
 have hm:=h.m
 have:=World.ownsRow.cellAt h.o i (by omega)
 rw[this]
 exact a
theorem Rws.start(w:World)(base:Nat)(hb:base≤w.heap.size):Rws (w.alloc (.cells #[] 70)) base w.heap.size 0 0 [] []:=
 ⟨World.ownsRow_lit w #[] 0 hb (by decide) rfl,rfl,rfl,fun i hi=>absurd hi (by omega)⟩
theorem wp_row(u:World){ops:Array Oper}{rest:List Oper}{o:Oper}{a:Act}{Q:Exit→Act→World→Prop}(hgd:o.guard=none)(s x:Operand)
  (ho:o.op= .call {callee:= .builtin .append,args:= #[s,x],argTypes:= #[71,71]})(base g n c gi m ci:Nat)(rs:List (List Int))(vs:List Value)(row:List Int)
  (hs:a.eval s= .slice (some ⟨g,0,none⟩) n c)(hx:a.eval x= .slice (some ⟨u.heap.size,0,none⟩) 1 1)(hR:Rws u base g n c rs vs)(hi:Ints.At u gi row)(hl:row.length=m)(hne:gi≠g)(hlo:base≤gi)(hgi:gi<u.heap.size)(hn:n≤1048576)(hb:base≤u.heap.size)
  (h:∀g' c' w' vs',Rws w' base g' (n+1) c' (rs++[row]) vs'→(u.alloc (.cells #[.slice (some ⟨gi,0,none⟩) m ci] 70)).grownBy w' (some g)→wpList Tryz.prog ops Q rest (a.put o.dst (.slice (some ⟨g',0,none⟩) (n+1) c')) w'):wpList Tryz.prog ops Q (o::rest) a (u.alloc (.cells #[.slice (some ⟨gi,0,none⟩) m ci] 70)):=by
 obtain⟨i0,hi0,hz0,hz1,hz2⟩:=info_parts infoS
 have hR':=hR.below ((Below.refl _ u).alloc (Nat.le_refl _) (.cells #[.slice (some ⟨gi,0,none⟩) m ci] 70))
 refine wpList_append_own_at _ hgd s x 71 ho base 70 i0 (.slice none 0 0) 1 24 Tryz.underlying71 hi0 hz0 hz1 hz2 rfl (by decide) _ n _ hs hR'.o ⟨u.heap.size,0,none⟩ 1 1 [.slice (some ⟨gi,0,none⟩) m ci] hx rfl (fun j v hj=>by
  cases j with
  |zero=>
   have e:v= .slice (some ⟨gi,0,none⟩) m ci:=by simpa using hj.symm
   rw[e]
   simp[Addr.add]
  |succ j=>simp at hj) (by simp[Value.oneCell']) (by unfold maxLen;omega) (by omega) (by simp;omega) ?_
 intro v' w' own' gr' nil' loc'
 rcases own'.2 with⟨h1,_⟩|⟨g',c',cur,h1,_⟩
 ·rw[h1] at nil';simp at nil'
 ·subst h1
  have loc:g'=g∨g'=u.heap.size+1:=by simpa[Value.ownBlock] using loc'
  refine h g' c' w' (vs++[.slice (some ⟨gi,0,none⟩) m ci]) ⟨own',by simp[hR.l],by simp[hR.m],fun i hi'=>?_⟩ gr'
  have lg:=hR.lt.2
  by_cases e:i<n
  ·obtain⟨gj,cj,q0,q1,q2,q3,q4⟩:=hR.r i e
   have lr:i<rs.length:=by rw[hR.m];exact e
   have er:(rs++[row]).getD i []=rs.getD i []:=by simp[List.getD,List.getElem?_append_left lr]
   refine⟨gj,cj,q0,?_,by omega,?_,?_⟩
   ·rw[er,List.getElem?_append_left (by rw[hR.l];exact e)];exact q1
   ·have:=gr'.size;simp at this;omega
   ·rw[er]
    exact fun k hk=>(World.cell?_of_block (w:=u) (a:=⟨gj,k,none⟩) ((gr'.block gj (by simp;omega) (by simpa[Value.ownBlock] using q2)).trans (Below.heap_alloc u _ _ q3))).trans (q4 k hk)
  ·have ei:i=n:=by omega
   subst ei
   have er:(rs++[row]).getD i []=row:=by simp[List.getD,←hR.m]
   refine⟨gi,ci,hlo,?_,by omega,?_,?_⟩
   ·rw[er,hl,←hR.l];simp
   ·have:=gr'.size;simp at this;omega
   ·rw[er]
    exact fun k hk=>(World.cell?_of_block (w:=u) (a:=⟨gi,k,none⟩) ((gr'.block gi (by simp;omega) (by simpa[Value.ownBlock] using hne)).trans (Below.heap_alloc u _ _ hgi))).trans (hi k hk)
def RowsSaid(r:List (List Int)×Int×Bool)(w:World)(e:Ending)(w':World):Prop:=
 ∃g c,e= .returned (.tuple #[.slice (some ⟨g,0,none⟩) r.1.length c,.int .i64 r.2.1,.bool r.2.2])∧w.heap.size≤g∧g<w'.heap.size∧RowAt w' w.heap.size g r.1∧Below w.heap.size w w'
theorem RowsSaid.mk{r:List (List Int)×Int×Bool}{w w':World}{e:Ending}(g c:Nat)(h:e= .returned (.tuple #[.slice (some ⟨g,0,none⟩) r.1.length c,.int .i64 r.2.1,.bool r.2.2]))(a:w.heap.size≤g)(b:g<w'.heap.size)(d:RowAt w' w.heap.size g r.1)(f:Below w.heap.size w w'):RowsSaid r w e w':=⟨g,c,h,a,b,d,f⟩
section
variable {oz:Nat}
theorem sRows(w:World)(gl cl:Nat)(xs:List Int)(p0:Int)(wide:Nat)(most:Int)(h20:xs.length≤1048576)(hw:wide≤2000)(hm:most≤1000)(hg:gl<w.heap.size)(hr:AtBO w gl oz xs):
  Calls Tryz.prog 35 #[.slice (some ⟨gl,oz,none⟩) xs.length cl,.int .i64 p0,.int .i64 wide,.int .i64 most] w (RowsSaid (rowsN xs p0 wide most) w):=by
 have R0:=zh (Rws.start w w.heap.size (Nat.le_refl _))
 have B0:=zh (one_more w (.cells #[] 70))
 have R:=zh hr
 have HG:=zh hg
 have SG:=zh (sGetNumO (w.alloc (.cells #[] 70)) gl oz cl xs p0 h20 (hr.below (zu B0) hg))
 obtain⟨r,hq⟩:∃r,Hid (rowsN xs p0 wide most=r):=⟨_,rfl⟩
 rw[zu hq]
 unfold rowsN at hq
 clear hr hg
 generalize getN xs p0=y at *
 obtain⟨n,f,ok⟩:=y
 cases ok with
 |false=>
  have e:=zu hq
  rw[if_neg (by simp)] at e
  subst e
  clear hq
  go_enter Tryz.func35,Tryz.ntmps35
  go_wp2_with fail
  refine(zu SG).mono ?_
  rintro e u ⟨rfl,rfl⟩
  go_wp2
  go_ret3
  exact .mk _ 0 rfl (Nat.le_refl _) (zu R0).lt.2 (zu R0).at (zu B0)
 |true=>
 by_cases nm:n≤most
 case neg=>
  have e:=zu hq
  rw[if_neg (by simpa using nm)] at e
  subst e
  have nm2:most<n:=by omega
  clear hq nm
  go_enter Tryz.func35,Tryz.ntmps35
  go_wp2_with fail
  refine(zu SG).mono ?_
  rintro e u ⟨rfl,rfl⟩
  go_wp2
  go_ret3
  exact .mk _ 0 rfl (Nat.le_refl _) (zu R0).lt.2 (zu R0).at (zu B0)
 have Q:=zu hq
 rw[if_pos ⟨rfl,nm⟩] at Q
 have HQ:=zh Q
 clear hq Q
 obtain⟨r0,r1,r2⟩:=r
 have nm2:¬most<n:=by omega
 go_enter Tryz.func35,Tryz.ntmps35
 go_wp2_with fail
 refine(zu SG).mono ?_
 rintro e u ⟨rfl,rfl⟩
 go_wp2
 clear SG nm2
 go_loopw [1,11,14,15,16,17] (fun a l i _ _ _ wr=>∃(p:Int) (rs:List (List Int)) (vs:List Value) (g c k m:Nat),a= .int .i64 p∧l= .slice (some ⟨g,0,none⟩) m c∧i= .int .i64 k∧m=k∧(k≤n.toNat)∧Hid (rowsL xs wide (n.toNat-k) p rs=(r0,r1,r2))∧Hid (Rws wr w.heap.size g m c rs vs)∧Hid (Below w.heap.size w wr)) (fun _ _ i _ _ _ _=>n.toNat-(intOf i).toNat)
 case atStart=>exact⟨f,[],[],w.heap.size,0,0,0,rfl,rfl,rfl,rfl,by omega,HQ,R0,B0⟩
 case round=>
  clear R0 B0 HQ
  obtain⟨p,rs,vs,g,c,k,m,rfl,rfl,rfl,rfl,hk,HE,HR,HB⟩:=hrel
  have bs:=(zu HB).size
  have og:=(zu HR).lt
  by_cases t:m<n.toNat
  ·have NX:=zh (show(if(getsN xs p wide).2.2=true then rowsL xs wide (n.toNat-(m+1)) (getsN xs p wide).2.1 (rs++[(getsN xs p wide).1]) else(rs,0,false))=(r0,r1,r2) from by
    rw[←zu HE,show n.toNat-m=(n.toNat-(m+1))+1 by omega]
    rfl)
   have kn:(m:Int)<n:=by omega
   have SN:=zh (sGetNumsO wr gl cl xs p wide h20 (by have:=zu HG;omega) (AtBO.below (zu R) (zu HB) (zu HG)))
   clear HE
   generalize getsN xs p wide=y at *
   obtain⟨y0,y1,y2⟩:=y
   go_wp2_with fail
   refine(zu SN).mono ?_
   rintro e u ⟨gi,ci,rfl,oi,bi⟩
   have us:=bi.size
   have og2:=oi.lt
   have OI:=zh oi
   have HR1:=zh ((zu HR).below bi)
   have B1:=zh ((zu HB).trans (bi.mono bs))
   clear oi bi SN
   cases y2 with
   |false=>
    have F:=zu NX
    rw[if_neg (by simp)] at F
    injection F with F0 F
    injection F with F1 F2
    subst F0 F1 F2
    have RM:=(zu HR).m
    clear NX
    go_wp2
    go_ret3
    exact .mk g c (by show _=Ending.returned (.tuple #[.slice (some ⟨g,0,none⟩) rs.length c,_,_]);rw[RM];rfl) og.1 (zu HR1).lt.2 (zu HR1).at (zu B1)
   |true=>
    have N1:=zh (show rowsL xs wide (n.toNat-(m+1)) y1 (rs++[y0])=(r0,r1,r2) from by rw[←zu NX,if_pos rfl])
    clear NX
    go_wp2_with (first|(at_builtin;refine wp_row u rfl _ _ rfl w.heap.size g m c gi y0.length ci rs vs y0 rfl rfl (zu HR1) (zu OI).at rfl (by omega) (by omega) og2.2 (by omega) (by omega) ?_)|go_in)
    intro g5 c5 w5 vs5 R5 gr5
    have HR5:=zh R5
    have B5:=zh (((zu B1).alloc (by omega) (.cells #[.slice (some ⟨gi,0,none⟩) y0.length ci] 70)).grown gr5 (by simp;omega) (fun j hj=>by cases hj;exact og.1))
    clear R5 gr5
    go_wp2
    go_roundw
    case rel=>exact⟨y1,rs++[y0],vs5,g5,c5,m+1,m+1,rfl,rfl,by go_num,rfl,by omega,N1,HR5,B5⟩
    case measure=>simp[intOf];omega
  ·have e:n.toNat=m:=by omega
   have F:=zu HE
   rw[e,Nat.sub_self] at F
   simp only[rowsL] at F
   injection F with F0 F
   injection F with F1 F2
   subst F0 F1 F2
   have RM:=zh (zu HR).m
   have OG:=zh og
   have kn:¬(m:Int)<n:=by omega
   clear HE og
   go_wp2
   go_ret3
   exact .mk g c (by show _=Ending.returned (.tuple #[.slice (some ⟨g,0,none⟩) rs.length c,_,_]);rw[zu RM];rfl) (zu OG).1 (zu OG).2 (zu HR).at (zu HB)
end
end SRows13
end Go.Proofs.YtagmnociflkhcaaGreatDoor
