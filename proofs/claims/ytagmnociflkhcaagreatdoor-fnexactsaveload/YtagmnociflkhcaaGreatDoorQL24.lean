/- Texts of one proof, one behind the other: SUnseal11, StepB11. -/
import Derived.Test.YtagmnociflkhcaaGreatDoorRows
import Derived.Test.YtagmnociflkhcaaGreatDoorCards
import Derived.Test.YtagmnociflkhcaaGreatDoorTie
import Derived.Test.YtagmnociflkhcaaGreatDoorQL0
import Derived.Test.YtagmnociflkhcaaGreatDoorQL15
import Derived.Deep.RegionHeld3
set_option linter.unusedVariables false
set_option linter.unusedSimpArgs false
open Go.ChangeShapes Go.WideShapes Go.ChangeAt Go.RowKit
set_option maxRecDepth 100000
set_option maxHeartbeats 32000000
namespace Go.Proofs.YtagmnociflkhcaaGreatDoor
namespace SUnseal11
open SBytes SPut11
open ByteH (Own At)
theorem w64(x:Int)(h0:0≤x)(h1:x≤9223372036854775807):IntKind.i64.wrap x=x:=by
 rw[IntKind.wrap_i64]
 omega
def piece(xs:List Int)(f n:Nat):List Int:=(xs.drop f).take n
theorem piece_len{xs:List Int}{f n:Nat}(h:f+n≤xs.length):(piece xs f n).length=n:=by simp[piece];omega
theorem piece_get{xs:List Int}{f n i:Nat}(h:i<n):(piece xs f n).getD i 0=xs.getD (f+i) 0:=by simp[piece,List.getD,h]
def fourN(xs:List Int)(f:Nat):Int:=xs.getD f 0+xs.getD (f+1) 0*256+xs.getD (f+2) 0*65536+xs.getD (f+3) 0*16777216
def unsealN(xs:List Int)(p:Int):List Int×Int×Int:=
 if(getN xs p).2.2=false∨9000<(getN xs p).1 then([],0,1)
 else if(xs.length:Int) -(getN xs p).2.1<(getN xs p).1+4 then([],0,2)
 else if chkB (piece xs (getN xs p).2.1.toNat (getN xs p).1.toNat)=fourN xs ((getN xs p).2.1.toNat+(getN xs p).1.toNat) then(piece xs (getN xs p).2.1.toNat (getN xs p).1.toNat,(getN xs p).2.1+(getN xs p).1+4,0)
 else([],0,3)
theorem getF_in(xs:List Int)(q:Nat):∀f k,(getF xs q f k).2.2=true→0≤(getF xs q f k).1∧0≤(getF xs q f k).2.1∧(getF xs q f k).2.1≤xs.length
 |0,k=>by simp[getF]
 |f+1,k=>by
  intro h
  simp only[getF] at h⊢
  by_cases a:q+k<xs.length
  ·rw[if_pos a] at h⊢
   by_cases b:xs.getD (q+k) 0<128
   ·rw[if_pos b] at h⊢
    by_cases c:xs.getD (q+k) 0=0∧0<k
    ·rw[if_pos c] at h;simp at h
    ·rw[if_neg c]
     exact⟨(val_in xs q (k+1)).1,by simp only;omega,by simp only;omega⟩
   ·rw[if_neg b] at h⊢
    exact getF_in xs q f (k+1) h
  ·rw[if_neg a] at h;simp at h
theorem getN_in(xs:List Int)(p:Int)(h:(getN xs p).2.2=true):0≤(getN xs p).1∧0≤(getN xs p).2.1∧(getN xs p).2.1≤xs.length:=by
 unfold getN at h⊢
 by_cases a:p<0∨(xs.length:Int)≤p
 ·rw[if_pos a] at h;simp at h
 ·rw[if_neg a] at h⊢
  exact getF_in xs _ 9 0 h
theorem sUnseal(w:World)(gl cl:Nat)(xs:List Int)(p0:Int)(h20:xs.length≤1048576)(hc:xs.length≤cl)(hg:gl<w.heap.size)(hr:AtB w gl xs):
  Calls Tryz.prog 15 #[.slice (some ⟨gl,0,none⟩) xs.length cl,.int .i64 p0] w fun e w'=>∃g c,e= .returned (.tuple #[.slice (some ⟨g,0,none⟩) (unsealN xs p0).1.length c,.int .i64 (unsealN xs p0).2.1,.int .i64 (unsealN xs p0).2.2])∧Own w' w.heap.size g (unsealN xs p0).1.length c (unsealN xs p0).1∧Below w.heap.size w w':=by
 have O0:=zh (lit0 w w.heap.size (Nat.le_refl _) rfl)
 have B0:=zh (one_more w (.cells #[] 5))
 have R:=zh hr
 have HG:=zh hg
 have GI:=zh (getN_in xs p0)
 have SG:=zh (sGetNum w gl cl xs p0 h20 hr)
 obtain⟨r,hq⟩:∃r,Hid (unsealN xs p0=r):=⟨_,rfl⟩
 rw[zu hq]
 unfold unsealN at hq
 clear hr hg
 generalize getN xs p0=y at *
 obtain⟨n,f,ok⟩:=y
 cases ok with
 |false=>
  have e:=zu hq
  rw[if_pos (.inl rfl)] at e
  subst e
  clear hq GI
  go_enter Tryz.func15,Tryz.ntmps15
  go_wp2_with fail
  refine(zu SG).mono ?_
  rintro e u ⟨rfl,rfl⟩
  go_wp2
  go_ret3
  exact⟨_,0,rfl,zu O0,zu B0⟩
 |true=>
  obtain⟨g0,g1,g2⟩:=(zu GI) rfl
  simp only at g0 g1 g2
  clear GI
  by_cases n9:9000<n
  ·have e:=zu hq
   rw[if_pos (.inr n9)] at e
   subst e
   clear hq
   go_enter Tryz.func15,Tryz.ntmps15
   go_wp2_with fail
   refine(zu SG).mono ?_
   rintro e u ⟨rfl,rfl⟩
   go_wp2
   go_ret3
   exact⟨_,0,rfl,zu O0,zu B0⟩
  have e:=zu hq
  rw[if_neg (by simp;omega)] at e
  simp only at e
  obtain⟨n,rfl⟩:∃m:Nat,n=m:=⟨n.toNat,by omega⟩
  obtain⟨f,rfl⟩:∃m:Nat,f=m:=⟨f.toNat,by omega⟩
  have a1:wrap64 ((xs.length:Int) -f)=xs.length-f:=by rw[wrap64];omega
  have a2:wrap64 ((n:Int)+4)=n+4:=by rw[wrap64];omega
  clear hq
  by_cases s:(xs.length:Int) -f<n+4
  ·rw[if_pos s] at e
   subst e
   go_enter Tryz.func15,Tryz.ntmps15
   go_wp2_with fail
   refine(zu SG).mono ?_
   rintro e u ⟨rfl,rfl⟩
   go_wp2
   go_ret3
   exact⟨_,0,rfl,zu O0,zu B0⟩
  rw[if_neg s,Int.toNat_natCast,Int.toNat_natCast] at e
  have E:=zh e
  clear e
  have fn:f+n+4≤xs.length:=by omega
  have a3:wrap64 ((f:Int)+n)=f+n:=by rw[wrap64];omega
  have a4:wrap64 ((f:Int)+n+4)=f+n+4:=by rw[wrap64];omega
  have PL:=zh (piece_len (xs:=xs) (f:=f) (n:=n) (by omega))
  have PA:=zh (show AtO (w.alloc (.cells #[] 5)) gl f (piece xs f n) from fun i hi=>by
   rw[zu PL] at hi
   rw[piece_get hi]
   exact((AtB.below (zu R) (zu B0) (zu HG)) (f+i) (by omega)).1)
  have b0:(f:Int)≤f+n:=by omega
  have b1:(f:Int)+n≤cl:=by omega
  have b2:(f:Int)+n+4≤cl:=by omega
  have b3:(f:Int)+n≤f+n+4:=by omega
  clear g0 g1 g2
  go_enter Tryz.func15,Tryz.ntmps15
  go_wp2_with fail
  refine(zu SG).mono ?_
  rintro e u ⟨rfl,rfl⟩
  go_wp2_with (first|(at_builtin;refine wp_catB _ rfl _ _ rfl u.heap.size u.heap.size 0 0 n [] (piece xs f n) gl f (cl-f) rfl (by first|rfl|(simp[go_sem];done)|(simp[Act.eval];omega)) (zu O0) (zu PL) (zu PA) (by omega) (by simp) ?_)|go_in)
  intro g5 c5 w5 o5 gr5 loc5
  have og:=o5.lt
  have B5:=zh (show Below u.heap.size u w5 from(zu B0).grown gr5 (by simp) (fun j hj=>by cases hj;exact Nat.le_refl _))
  have O5:=zh o5
  have R5:=zh (AtB.below (zu R) (zu B5) (zu HG))
  have D:=zh (show ∀i,i<4→w5.cell? ⟨gl,f+n+i,none⟩=some (.int .u8 (xs.getD (f+n+i) 0))∧0≤xs.getD (f+n+i) 0∧xs.getD (f+n+i) 0≤255 from fun i hi=>(zu R5) (f+n+i) (by omega))
  clear o5 gr5 loc5 O0 B0
  obtain⟨e0,e1⟩:=(zu D) 0 (by omega)
  obtain⟨f0,f1⟩:=(zu D) 1 (by omega)
  obtain⟨h0,h1⟩:=(zu D) 2 (by omega)
  obtain⟨k0,k1⟩:=(zu D) 3 (by omega)
  rw[Nat.add_zero] at e0 e1
  have FO:=zh (show fourN xs (f+n)=xs.getD (f+n) 0+xs.getD (f+n+1) 0*256+xs.getD (f+n+2) 0*65536+xs.getD (f+n+3) 0*16777216 from rfl)
  generalize xs.getD (f+n) 0=v0 at *
  generalize xs.getD (f+n+1) 0=v1 at *
  generalize xs.getD (f+n+2) 0=v2 at *
  generalize xs.getD (f+n+3) 0=v3 at *
  rw[zu FO] at E
  have PC:=zh (sCheck w5.drew g5 c5 (piece xs f n) (by rw[zu PL];omega) (fun i hi=>by
   have:=(zu O5).at i hi
   refine⟨this,?_⟩
   rw[zu PL] at hi
   rw[piece_get hi]
   exact((zu R5) (f+i) (by omega)).2))
  rw[zu PL] at PC
  obtain⟨z,hz⟩:∃z,Hid (chkB (piece xs f n)=z):=⟨_,rfl⟩
  rw[zu hz] at E
  have ez:chkB (piece xs f n)=65536*(chk (piece xs f n) n).2+(chk (piece xs f n) n).1:=by unfold chkB;rw[zu PL]
  rw[←ez,zu hz] at PC
  have PC':Hid (Calls Tryz.prog 33 #[.slice (some ⟨g5,0,none⟩) n c5] w5.drew fun e w'=>e= .returned (.int .i64 z)∧w'=w5.drew):=PC
  clear ez
  clear PC D FO
  have V:=zh (And.intro e1 (And.intro f1 (And.intro h1 k1)))
  clear e1 f1 h1 k1
  by_cases q:z=v0+v1*256+v2*65536+v3*16777216
  ·have e:=zu E
   rw[if_pos q] at e
   subst e
   have Q:=zh q
   clear E q
   go_wp2_with fail
   have K4:=And.intro e0 (And.intro f0 (And.intro h0 k0))
   go_region_held3 (fun w'=>w'.cell? ⟨gl,f+n,none⟩=some (.int .u8 v0)∧w'.cell? ⟨gl,f+n+1,none⟩=some (.int .u8 v1)∧w'.cell? ⟨gl,f+n+2,none⟩=some (.int .u8 v2)∧w'.cell? ⟨gl,f+n+3,none⟩=some (.int .u8 v3)) (first|exact K4)
    (first|(go_at_call 33;refine(zu PC').mono ?_;rintro e u5 ⟨rfl,rfl⟩))
   obtain⟨e1,f1,h1,k1⟩:=zu V
   have x0:IntKind.i64.wrap v0=v0:=w64 _ (by omega) (by omega)
   have x1:IntKind.i64.wrap v1=v1:=w64 _ (by omega) (by omega)
   have x2:IntKind.i64.wrap v2=v2:=w64 _ (by omega) (by omega)
   have x3:IntKind.i64.wrap v3=v3:=w64 _ (by omega) (by omega)
   have y1:IntKind.i64.wrap (v1*256)=v1*256:=w64 _ (by omega) (by omega)
   have y2:IntKind.i64.wrap (v2*65536)=v2*65536:=w64 _ (by omega) (by omega)
   have y3:IntKind.i64.wrap (v3*16777216)=v3*16777216:=w64 _ (by omega) (by omega)
   have z1:IntKind.i64.wrap (v0+v1*256)=v0+v1*256:=w64 _ (by omega) (by omega)
   have z2:IntKind.i64.wrap (v0+v1*256+v2*65536)=v0+v1*256+v2*65536:=w64 _ (by omega) (by omega)
   have z3:IntKind.i64.wrap (v0+v1*256+v2*65536+v3*16777216)=v0+v1*256+v2*65536+v3*16777216:=w64 _ (by omega) (by omega)
   simp only[x0,x1,x2,x3,y1,y2,y3,z1,z2,z3]
   clear x0 x1 x2 x3 y1 y2 y3 z1 z2 z3 e1 f1 h1 k1
   rw[zu Q]
   generalize v0+v1*256+v2*65536+v3*16777216=m at *
   have hm:(m !=m)=false:=by simp
   go_wp2
   go_ret3
   exact⟨g5,c5,by rw[zu PL];rfl,by rw[zu PL];exact zu O5,(zu B5).drew⟩
  ·have e:=zu E
   rw[if_neg q] at e
   subst e
   have Q:=zh q
   clear E q
   go_wp2_with fail
   have K4:=And.intro e0 (And.intro f0 (And.intro h0 k0))
   go_region_held3 (fun w'=>w'.cell? ⟨gl,f+n,none⟩=some (.int .u8 v0)∧w'.cell? ⟨gl,f+n+1,none⟩=some (.int .u8 v1)∧w'.cell? ⟨gl,f+n+2,none⟩=some (.int .u8 v2)∧w'.cell? ⟨gl,f+n+3,none⟩=some (.int .u8 v3)) (first|exact K4)
    (first|(go_at_call 33;refine(zu PC').mono ?_;rintro e u5 ⟨rfl,rfl⟩))
   obtain⟨e1,f1,h1,k1⟩:=zu V
   have x0:IntKind.i64.wrap v0=v0:=w64 _ (by omega) (by omega)
   have x1:IntKind.i64.wrap v1=v1:=w64 _ (by omega) (by omega)
   have x2:IntKind.i64.wrap v2=v2:=w64 _ (by omega) (by omega)
   have x3:IntKind.i64.wrap v3=v3:=w64 _ (by omega) (by omega)
   have y1:IntKind.i64.wrap (v1*256)=v1*256:=w64 _ (by omega) (by omega)
   have y2:IntKind.i64.wrap (v2*65536)=v2*65536:=w64 _ (by omega) (by omega)
   have y3:IntKind.i64.wrap (v3*16777216)=v3*16777216:=w64 _ (by omega) (by omega)
   have z1:IntKind.i64.wrap (v0+v1*256)=v0+v1*256:=w64 _ (by omega) (by omega)
   have z2:IntKind.i64.wrap (v0+v1*256+v2*65536)=v0+v1*256+v2*65536:=w64 _ (by omega) (by omega)
   have z3:IntKind.i64.wrap (v0+v1*256+v2*65536+v3*16777216)=v0+v1*256+v2*65536+v3*16777216:=w64 _ (by omega) (by omega)
   simp only[x0,x1,x2,x3,y1,y2,y3,z1,z2,z3]
   clear x0 x1 x2 x3 y1 y2 y3 z1 z2 z3 e1 f1 h1 k1
   have hm:(z !=v0+v1*256+v2*65536+v3*16777216)=true:=by simpa using zu Q
   generalize v0+v1*256+v2*65536+v3*16777216=m at *
   have O6:=zh (lit0 w5.drew u.heap.size (zu B5).size rfl)
   have B6:=zh ((zu B5).drew.alloc (zu B5).size (.cells #[] 5))
   go_wp2
   go_ret3
   exact⟨_,0,rfl,zu O6,zu B6⟩
end SUnseal11
namespace StepB11
open SBytes SPut11
open ByteH (Own At)
theorem step_catB(u:World){ops:Array Oper}{o:Oper}{a:Act}{K:Act→World→Prop}{Q:Exit→Act→World→Prop}{E:Prop}(hgd:o.guard=none)(s x:Operand)
  (ho:o.op= .call {callee:= .builtin .append,args:= #[s,x],argTypes:= #[49,49]})(base g n cap m:Nat)(xs ys:List Int)(vb off c:Nat)
  (hs:a.eval s= .slice (some ⟨g,0,none⟩) n cap)(hx:a.eval x= .slice (some ⟨vb,off,none⟩) m c)(hown:Own u base g n cap xs)(hl:ys.length=m)(hv:AtO u vb off ys)(hn:n+m≤9223372036854)(hb:base≤u.heap.size)
  (h:∀g' c' w',Own w' base g' (n+m) c' (xs++ys)→u.grownBy w' (some g)→(g'=g∨g'=u.heap.size)→K (a.put o.dst (.slice (some ⟨g',0,none⟩) (n+m) c')) w'):if Region.wanted o (yielded ops a.tmps)=true then Oper.wp Tryz.prog o a u K Q else E:=by
 obtain⟨i0,hi,hz0,hz1,hz2⟩:=info_parts ByteH.info8
 have hw:Region.wanted o (yielded ops a.tmps)=true:=by simp[Region.wanted,hgd]
 rw[if_pos hw]
 obtain⟨v',w',hr,own',gr',nil',loc'⟩:=run_append_own_at (P:=Tryz.prog) u base 49 o.type 5 i0 (.int .u8 0) 1 1 Tryz.underlying49 hi hz0 hz1 hz2 rfl (by decide) (.slice (some ⟨g,0,none⟩) n cap) n (xs.map (Value.int .u8)) hown ⟨vb,off,none⟩ m c (ys.map (Value.int .u8)) (by simp[hl]) (fun j v hj=>by
  have hj':j<ys.length:=by
   have:=(List.getElem?_eq_some_iff.1 hj).1
   simpa using this
  have:=hv j hj'
  rw[Addr.add_lit,this]
  rw[←hj]
  simp[List.getD,hj']) (by intro u hu;obtain⟨y,_,rfl⟩:=List.mem_map.1 hu;simp[Value.oneCell']) (by unfold maxLen;omega) (by omega) hb
 unfold Oper.wp execOp
 simp only[ho,resolve,invoke,builtin,Sem.run_bind,Sem.run_pure,Result.andThen_ok,List.map_toArray,List.map_cons,List.map_nil,hs,hx,hr]
 obtain⟨g',c',rfl,o'⟩:=own_of_row (n':=n+m) (xs:=xs++ys) own' rfl (by simp) (by rw[nil'];simp)
 exact h g' c' w' o' gr' (by simpa[Value.ownBlock] using loc')
end StepB11
end Go.Proofs.YtagmnociflkhcaaGreatDoor
