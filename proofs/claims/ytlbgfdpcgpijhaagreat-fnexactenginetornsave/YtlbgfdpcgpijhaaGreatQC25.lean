/- Lemmas. -/
import Derived.Test.YtlbgfdpcgpijhaaGreatQC4
import Derived.Lib.AppendZerosOnto
open Go.ChangeShapes Go.WideShapes Go.ChangeAt Go.RowKit
set_option linter.unusedVariables false
set_option linter.unusedSimpArgs false
set_option maxRecDepth 100000
set_option maxHeartbeats 32000000
namespace Go.Proofs.YtlbgfdpcgpijhaaGreat
namespace ConB11
open SBytes SPut11
open ByteH (Own At info8)
def OwnV(w:World)(base:Nat)(v:Value)(xs:List Int):Prop:=w.ownsRow base 5 1 v xs.length (xs.map (Value.int .u8))
theorem OwnV.nil(w:World)(base:Nat):OwnV w base (.slice none 0 0) []:=⟨rfl,.inl ⟨rfl,rfl⟩⟩
theorem OwnV.lt{w:World}{base:Nat}{v:Value}{xs:List Int}(h:OwnV w base v xs):∀g,v.ownBlock=some g→base≤g∧g<w.heap.size:=fun g hg=>World.ownsRow.lt h g hg
theorem OwnV.ob{w:World}{base:Nat}{v:Value}{xs:List Int}(h:OwnV w base v xs):∃a c,v= .slice a xs.length c∧VOB.Ob w base a xs.length c xs:=by
 have h':=h
 rcases h.2 with⟨rfl,h2⟩|⟨g,c,cur,rfl,_⟩
 ·obtain rfl:xs=[]:=List.eq_nil_of_length_eq_zero h2
  exact⟨none,0,rfl,h'⟩
 ·exact⟨_,c,rfl,h'⟩
theorem AtO.below{w w':World}{g o B:Nat}{xs:List Int}(h:AtO w g o xs)(k:Below B w w')(hg:g<B):AtO w' g o xs:=fun i hi=>(k.cell (p:=⟨g,o+i,none⟩) hg).trans (h i hi)
theorem wp_catV(u:World){ops:Array Oper}{rest:List Oper}{o:Oper}{a:Act}{Q:Exit→Act→World→Prop}(hgd:o.guard=none)(s x:Operand)
  (ho:o.op= .call {callee:= .builtin .append,args:= #[s,x],argTypes:= #[196,196]})(base m:Nat)(v:Value)(ps qs:List Int)(vb off c:Nat)
  (hs:a.eval s=v)(hx:a.eval x= .slice (some ⟨vb,off,none⟩) m c)(hown:OwnV u base v ps)(hl:qs.length=m)(hv:AtO u vb off qs)(hn:ps.length+m≤1048576)(hb:base≤u.heap.size)
  (h:∀v' w',OwnV w' base v' (ps++qs)→u.grownBy w' v.ownBlock→(v'.ownBlock=v.ownBlock∨v'.ownBlock=some u.heap.size)→wpList Tryz.prog ops Q rest (a.put o.dst v') w'):wpList Tryz.prog ops Q (o::rest) a u:=by
 obtain⟨i0,hi,hz0,hz1,hz2⟩:=info_parts info8
 refine wpList_append_own_at u hgd s x 196 ho base 5 i0 (.int .u8 0) 1 1 Tryz.underlying196 hi hz0 hz1 hz2 rfl (by decide) v ps.length _ hs hown ⟨vb,off,none⟩ m c (qs.map (Value.int .u8)) hx (by simp[hl]) (fun j v hj=>by
  have hj':j<qs.length:=by
   have:=(List.getElem?_eq_some_iff.1 hj).1
   simpa using this
  have:=hv j hj'
  rw[Addr.add_lit,this]
  rw[←hj]
  simp[List.getD,hj']) (by intro u hu;obtain⟨y,_,rfl⟩:=List.mem_map.1 hu;simp[Value.oneCell']) (by unfold maxLen;omega) (by omega) hb ?_
 intro v' w' own' gr' nil' loc'
 refine h v' w' ?_ gr' loc'
 unfold OwnV
 rw[List.map_append,List.length_append,hl]
 exact own'
theorem grow_none(w:World):Calls Tryz.prog 229 #[.slice none 0 0,.int .i64 0] w fun e w'=>e= .returned (.slice none 0 0)∧Below w.heap.size w w':=by
 go_enter Tryz.func229,Tryz.ntmps229
 go_wp2
 go_ret
 exact⟨rfl,Below.refl _ _⟩
theorem grow_some(w:World)(k:Nat)(h0:0<k)(h20:k≤1048576):Calls Tryz.prog 229 #[.slice none 0 0,.int .i64 k] w fun e w'=>∃v,e= .returned v∧OwnV w' w.heap.size v []∧Below w.heap.size w w':=by
 obtain⟨i0,hi,hz0,hz1,hz2⟩:=info_parts info8
 have kp:(0:Int)<(k:Int):=by omega
 have hold:(Builtin.firstCells i0.size 0 (.slice none 0 0)).run Tryz.prog w.drew= .ok ([]:List Value).toArray w.drew:=run_firstCells_none _ _ _ _ _
 obtain⟨G,hG⟩:∃G,G=grownCap w k 0 5:=⟨_,rfl⟩
 have hG1:k≤G:=by rw[hG];exact grownCap_ge w _ _ _
 have hG2:G≤maxLen:=by rw[hG];exact grownCap_le_maxLen w _ _ _ (by unfold maxLen;omega)
 obtain⟨ROW,hROW⟩:∃ROW:Array Value,ROW=([]:List Value).toArray++Builtin.zeroCells (Value.int .u8 0).cells k++Builtin.zeroCells (Value.int .u8 0).cells (G-k):=⟨_,rfl⟩
 have hrz:∀ty,(Builtin.append_ #[196,3] ty #[.slice none 0 0,.int .i64 (k:Int)]).run Tryz.prog w= .ok (.slice (some ⟨w.heap.size,0,none⟩) k G) (w.drew.alloc (.cells ROW 5)):=fun ty=>by
  have h:=Lib.run_append_grow_zeros w 196 3 ty 5 i0 _ .i64 .i64 Tryz.underlying196 Tryz.underlying3 hi hz0 none 0 0 [] hold k h0 (by rw[hz1];decide) (by omega) (by omega) (by rw[hz2];omega) (by rw[hz2];exact growslice_fits (by omega) (by omega))
  rw[Nat.zero_add,←hG,←hROW] at h
  exact h
 have hRs:ROW.size=G*1:=by
  rw[hROW]
  simp[Builtin.zeroCells,Value.cells]
  try omega
 have OV:=zh (show OwnV (w.drew.alloc (.cells ROW 5)) w.heap.size (.slice (some ⟨w.heap.size,0,none⟩) 0 G) [] from⟨rfl,.inr ⟨w.heap.size,G,ROW,rfl,Nat.le_refl _,heap_alloc_new w.drew _,Nat.zero_le _,hG2,hRs,by simp⟩⟩)
 have BB:=zh (show Below w.heap.size w (w.drew.alloc (.cells ROW 5)) from(Below.refl _ _).drew.alloc (Nat.le_refl _) _)
 have G63:(G:Int)≤9223372036854775807:=by unfold maxLen at hG2;omega
 clear hold hROW hRs hG hi hz0 hz1 hz2
 go_enter Tryz.func229,Tryz.ntmps229
 go_wp2_with (first|(at_builtin;refine Lib.wpList_append_run _ rfl _ _ _ _ rfl _ _ rfl rfl _ _ (hrz _) ?_)|go_in)
 go_ret
 exact⟨_,rfl,zu OV,zu BB⟩
theorem iConcat(w:World)(b g1 o1 n1 c1 g2 o2 n2 c2 g3 o3 n3 c3:Nat)(p1 p2 p3:List Int)(l1:p1.length=n1)(l2:p2.length=n2)(l3:p3.length=n3)(h20:n1+n2+n3≤1048576)
  (hb:b<w.heap.size)(q1:g1<w.heap.size)(q2:g2<w.heap.size)(q3:g3<w.heap.size)(a1:AtO w g1 o1 p1)(a2:AtO w g2 o2 p2)(a3:AtO w g3 o3 p3)
  (s1:w.cell? ⟨b,0,none⟩=some (.slice (some ⟨g1,o1,none⟩) n1 c1))(s2:w.cell? ⟨b,1,none⟩=some (.slice (some ⟨g2,o2,none⟩) n2 c2))(s3:w.cell? ⟨b,2,none⟩=some (.slice (some ⟨g3,o3,none⟩) n3 c3)):
  Calls Tryz.prog 207 #[.slice (some ⟨b,0,none⟩) 3 3] w fun e w'=>∃v,e= .returned v∧OwnV w' w.heap.size v (p1++(p2++p3))∧Below w.heap.size w w':=by
 have A1:=zh a1
 have A2:=zh a2
 have A3:=zh a3
 clear a1 a2 a3
 go_enter Tryz.func207,Tryz.ntmps207
 go_wp2
 go_loop [3,5,11] (fun q _ j=>∃(k:Nat) (z:Int),j= .int .i64 k∧q= .int .i64 z∧((k=0∧z=0)∨(k=1∧z=(n1:Int))∨(k=2∧z=(n1:Int)+(n2:Int))∨(k=3∧z=(n1:Int)+(n2:Int)+(n3:Int)))) (fun _ _ j=>3-(intOf j).toNat)
 case atStart=>exact⟨0,0,rfl,rfl,.inl ⟨rfl,rfl⟩⟩
 case round=>
  obtain⟨k,z,rfl,rfl,hk⟩:=hrel
  rcases hk with⟨rfl,rfl⟩|⟨rfl,rfl⟩|⟨rfl,rfl⟩|⟨rfl,rfl⟩
  ·go_wp2
   go_round
   case rel=>exact⟨1,(n1:Int),by go_num,by go_num,.inr (.inl ⟨rfl,rfl⟩)⟩
   case measure=>simp[intOf]
  ·go_wp2
   go_round
   case rel=>exact⟨2,(n1:Int)+(n2:Int),by go_num,by go_num,.inr (.inr (.inl ⟨rfl,rfl⟩))⟩
   case measure=>simp[intOf]
  ·go_wp2
   go_round
   case rel=>exact⟨3,(n1:Int)+(n2:Int)+(n3:Int),by go_num,by go_num,.inr (.inr (.inr ⟨rfl,rfl⟩))⟩
   case measure=>simp[intOf]
  ·have GR:=zh (show Calls Tryz.prog 229 #[.slice none 0 0,.int .i64 ((n1:Int)+(n2:Int)+(n3:Int))] w fun e w'=>∃v,e= .returned v∧OwnV w' w.heap.size v []∧Below w.heap.size w w' from by
    by_cases z:n1+n2+n3=0
    ·rw[show(n1:Int)+(n2:Int)+(n3:Int)=0 by omega]
     exact(grow_none w).mono fun _ _ ⟨he,hb⟩=>⟨_,he,OwnV.nil _ _,hb⟩
    ·have:=grow_some w (n1+n2+n3) (by omega) h20
     rw[show((n1+n2+n3:Nat):Int)=(n1:Int)+(n2:Int)+(n3:Int) by omega] at this
     exact this)
   go_wp2_with fail
   refine(zu GR).mono ?_
   rintro e w1 ⟨v,rfl,ov,b1⟩
   have OV:=zh ov
   have B1:=zh b1
   clear ov b1 GR
   go_wp2
   go_loopw [6,8,27] (fun x _ j wr=>∃(k:Nat) (v:Value) (out:List Int),j= .int .i64 k∧v=x∧Hid (OwnV wr w.heap.size v out)∧Hid (Below w.heap.size w wr)∧((k=0∧out=[])∨(k=1∧p1=out)∨(k=2∧out=p1++p2)∨(k=3∧out=p1++(p2++p3)))) (fun _ _ j _=>3-(intOf j).toNat)
   case atStart=>exact⟨0,v,[],rfl,rfl,OV,B1,.inl ⟨rfl,rfl⟩⟩
   case round=>
   clear OV B1
   obtain⟨k,v,out,rfl,rfl,OV,HB,hk⟩:=hrel
   rcases hk with⟨rfl,rfl⟩|⟨rfl,rfl⟩|⟨rfl,rfl⟩|⟨rfl,rfl⟩
   ·have s:wr.cell? ⟨b,0,none⟩=some (.slice (some ⟨g1,o1,none⟩) n1 c1):=((zu HB).cell (p:=⟨b,0,none⟩) hb).trans s1
    have A:=zh (AtO.below (zu A1) (zu HB) q1)
    have bs:=(zu HB).size
    have LN:=zh (show([]:List Int).length+n1≤1048576 from by(try simp);omega)
    go_wp2_with (first|(at_builtin;refine wp_catV _ rfl _ _ rfl w.heap.size n1 v ([]:List Int) p1 g1 o1 c1 rfl rfl (zu OV) l1 (zu A) (zu LN) bs ?_)|go_in)
    intro v5 w5 ov5 gr5 loc5
    have O5:=zh (show OwnV w5 w.heap.size v5 (p1) from by have:=ov5;exact this)
    have B5:=zh ((zu HB).grown gr5 bs (fun j hj=>((zu OV).lt j hj).1))
    clear ov5 gr5 loc5 A s
    go_wp2
    go_roundw
    case rel=>exact⟨1,v5,p1,by go_num,rfl,O5,B5,.inr (.inl ⟨rfl,rfl⟩)⟩
    case measure=>simp[intOf]
   ·have s:wr.cell? ⟨b,1,none⟩=some (.slice (some ⟨g2,o2,none⟩) n2 c2):=((zu HB).cell (p:=⟨b,1,none⟩) hb).trans s2
    have A:=zh (AtO.below (zu A2) (zu HB) q2)
    have bs:=(zu HB).size
    have LN:=zh (show(p1).length+n2≤1048576 from by(try simp);omega)
    go_wp2_with (first|(at_builtin;refine wp_catV _ rfl _ _ rfl w.heap.size n2 v (p1) p2 g2 o2 c2 rfl rfl (zu OV) l2 (zu A) (zu LN) bs ?_)|go_in)
    intro v5 w5 ov5 gr5 loc5
    have O5:=zh (show OwnV w5 w.heap.size v5 (p1++p2) from by have:=ov5;exact this)
    have B5:=zh ((zu HB).grown gr5 bs (fun j hj=>((zu OV).lt j hj).1))
    clear ov5 gr5 loc5 A s
    go_wp2
    go_roundw
    case rel=>exact⟨2,v5,p1++p2,by go_num,rfl,O5,B5,.inr (.inr (.inl ⟨rfl,rfl⟩))⟩
    case measure=>simp[intOf]
   ·have s:wr.cell? ⟨b,2,none⟩=some (.slice (some ⟨g3,o3,none⟩) n3 c3):=((zu HB).cell (p:=⟨b,2,none⟩) hb).trans s3
    have A:=zh (AtO.below (zu A3) (zu HB) q3)
    have bs:=(zu HB).size
    have LN:=zh (show(p1++p2).length+n3≤1048576 from by(try simp);omega)
    go_wp2_with (first|(at_builtin;refine wp_catV _ rfl _ _ rfl w.heap.size n3 v (p1++p2) p3 g3 o3 c3 rfl rfl (zu OV) l3 (zu A) (zu LN) bs ?_)|go_in)
    intro v5 w5 ov5 gr5 loc5
    have O5:=zh (show OwnV w5 w.heap.size v5 (p1++(p2++p3)) from by first|exact ov5|(have:=ov5;rw[List.append_assoc] at this;exact this))
    have B5:=zh ((zu HB).grown gr5 bs (fun j hj=>((zu OV).lt j hj).1))
    clear ov5 gr5 loc5 A s
    go_wp2
    go_roundw
    case rel=>exact⟨3,v5,p1++(p2++p3),by go_num,rfl,O5,B5,.inr (.inr (.inr ⟨rfl,rfl⟩))⟩
    case measure=>simp[intOf]
   ·go_wp2
    go_ret
    exact⟨_,rfl,zu OV,zu HB⟩
end ConB11
namespace ISeal11
open SBytes SPut11 SPuts11 SSeal11
open ByteH (Own At)
theorem lit_four(w:World)(a b c d:Int):AtO (w.alloc (.cells #[.int .u8 a,.int .u8 b,.int .u8 c,.int .u8 d] 234)) w.heap.size 0 [a,b,c,d]:=by
 intro i hi
 have:i=0∨i=1∨i=2∨i=3:=by simp at hi;omega
 rcases this with rfl|rfl|rfl|rfl<;>simp
theorem numB_some(n:Nat):(numB n).length≠0:=by
 unfold numB
 rw[if_neg (by omega)]
 by_cases h:127<((n:Int)).toNat
 ·rw[numF_more h];simp
 ·rw[numF_last h];simp
theorem iSeal(w:World)(gl cl:Nat)(xs:List Int)(h20:xs.length≤1048576)(hg:gl<w.heap.size)(hr:AtB w gl xs):
  Calls Tryz.prog 206 #[.slice (some ⟨gl,0,none⟩) xs.length cl] w fun e w'=>∃a c,e= .returned (.tuple #[.slice a (sealB xs).length c,.bool (decide (xs.length≤9000))])∧VOB.Ob w' w.heap.size a (sealB xs).length c (sealB xs)∧Below w.heap.size w w':=by
 by_cases h0:xs.length≤9000
 case neg=>
  have e:sealB xs=[]:=if_neg h0
  rw[e]
  have O0:=zh (lit0 w w.heap.size (Nat.le_refl _) rfl)
  have B0:=zh (one_more w (.cells #[] 5))
  have h1:(9000:Int)<xs.length:=by omega
  have D:=zh (show decide (xs.length≤9000)=false from by simp;omega)
  rw[zu D]
  clear e h0 hr
  go_enter Tryz.func206,Tryz.ntmps206
  go_wp2
  go_ret2
  exact⟨_,0,rfl,.of (zu O0),zu B0⟩
 have S:=zh (show numB xs.length++xs++four (chkB xs)=sealB xs from(if_pos h0).symm)
 have D:=zh (show decide (xs.length≤9000)=true from by simp;omega)
 rw[zu D]
 have SM:=zh (ISum11.iSum w gl 0 cl xs h20 hg (.of hr))
 have R:=zh hr
 have HG:=zh hg
 have NE:=zh (numB_some xs.length)
 have nine:=numB_nine (x:=xs.length) (by omega)
 have h1:¬(9000:Int)<xs.length:=by omega
 clear hr D
 go_enter Tryz.func206,Tryz.ntmps206
 go_wp2_with fail
 refine(zu SM).mono ?_
 rintro e u ⟨rfl,b1⟩
 have S1:=zh (show numB xs.length++xs++[chkB xs%256,chkB xs/256%256,chkB xs/65536%256,chkB xs/16777216%256]=sealB xs from zu S)
 have us:=b1.size
 have B0:=zh b1
 clear S SM b1
 generalize chkB xs%256=y0 at *
 generalize chkB xs/256%256=y1 at *
 generalize chkB xs/65536%256=y2 at *
 generalize chkB xs/16777216%256=y3 at *
 have R2:=zh (((zu R).below (zu B0) (zu HG)).below (one_more u (.cells #[.int .u8 y0,.int .u8 y1,.int .u8 y2,.int .u8 y3] 234)) (by omega))
 clear h1
 go_wp2
 refine wp_region_held_drew (S:=(fun _=>True)) (by kernel_rfl) trivial (fun hHeld=>?_)
 refine zT 0 11 (.slice (some ⟨gl,0,none⟩) xs.length cl) rfl hHeld ?_
 refine zT 1 12 (.int .i64 xs.length) rfl hHeld ?_
 refine zT 3 14 (.slice (some ⟨gl,0,none⟩) xs.length cl) rfl hHeld ?_
 refine zT 4 15 (.slice (some ⟨u.heap.size,0,none⟩) 4 4) rfl hHeld ?_
 try simp only[Act.put,zA,zB,zC]
 refine zR 2 rfl (fun K hK=>?_)
 go_simp
 go_wp2_with fail
 refine(IPut11.iPutNum _ xs.length (by omega)).mono ?_
 rintro e u1 ⟨a1,c1,rfl,o1,bb⟩
 obtain⟨g1,rfl,q1⟩:∃g,a1=some ⟨g,0,none⟩∧Own u1 u.heap.size g (numB xs.length).length c1 (numB xs.length):=by
  rcases o1.either with⟨_,h,_⟩|⟨g,h,o⟩
  ·exact absurd h (zu NE)
  ·exact⟨g,h,o.mono (by simp[World.drew])⟩
 have B1:=zh (show Below (u.heap.size+1) (u.alloc (.cells #[.int .u8 y0,.int .u8 y1,.int .u8 y2,.int .u8 y3] 234)) u1 from by
  have h:=bb.mono (B':=u.heap.size+1) (by simp[World.drew])
  exact⟨h.os,h.tape,h.output,h.size,h.block⟩)
 have O1:=zh q1
 have us1:=bb.size
 rw[show(u.alloc (.cells #[.int .u8 y0,.int .u8 y1,.int .u8 y2,.int .u8 y3] 234)).drew.heap.size=u.heap.size+1 by simp[World.drew]] at us1
 clear bb o1 q1
 go_wp2_with fail
 refine hK.out _ _ trivial (fun hHeld=>?_)
 clear hK K
 try simp only[Act.put,zA,zB,zC]
 refine zR 5 rfl (fun K hK=>?_)
 go_simp
 refine hK.out _ _ trivial (fun hHeld=>?_)
 clear hK K
 try simp only[Act.put,zA,zB,zC]
 refine zR 6 rfl (fun K hK=>?_)
 go_simp
 have A1:=zh (own_alloc (zu O1) (.cells #[.slice (some ⟨g1,0,none⟩) (numB xs.length).length c1,.slice (some ⟨gl,0,none⟩) xs.length cl,.slice (some ⟨u.heap.size,0,none⟩) 4 4] 196))
 have CB:=zh (ConB11.iConcat (u1.alloc (.cells #[.slice (some ⟨g1,0,none⟩) (numB xs.length).length c1,.slice (some ⟨gl,0,none⟩) xs.length cl,.slice (some ⟨u.heap.size,0,none⟩) 4 4] 196)) u1.heap.size g1 0 (numB xs.length).length c1 gl 0 xs.length cl u.heap.size 0 4 4 (numB xs.length) xs [y0,y1,y2,y3] rfl rfl rfl (by omega) (by simp) (Nat.lt_of_lt_of_le (zu O1).lt.2 (by simp)) (by simp;omega) (by simp;omega) (AtO.of (zu A1).at) (AtO.of (fun i hi=>(((zu R2).below (zu B1) (by omega)).below (one_more u1 _) (by omega) i hi).1)) (ConB11.AtO.below (ConB11.AtO.below (lit_four u y0 y1 y2 y3) (zu B1) (by omega)) (one_more u1 _) (by omega)) (by simp) (by simp) (by simp))
 go_wp2_with fail
 refine(zu CB).mono ?_
 rintro e u2 ⟨v2,rfl,o2,b2⟩
 obtain⟨a2,c2,rfl,q2⟩:=o2.ob
 have O2:=zh q2
 have B2:=zh b2
 clear o2 q2 b2 CB
 go_wp2_with fail
 refine hK.out _ _ trivial (fun hHeld=>?_)
 clear hK K
 refine zT 7 2 (.slice a2 (numB xs.length++(xs++[y0,y1,y2,y3])).length c2) rfl hHeld ?_
 refine zT 8 3 (.bool true) rfl hHeld ?_
 try simp only[Act.put,zA,zB,zC]
 refine wpAnyH_done (by kernel_rfl) ?_ _
 have B9:=zh (show Below w.heap.size w u2 from(((zu B0).alloc (zu B0).size (.cells #[.int .u8 y0,.int .u8 y1,.int .u8 y2,.int .u8 y3] 234)).trans ((zu B1).mono (by have:=(zu B0).size;omega))).trans (((one_more u1 _).mono (by have:=(zu B0).size;omega)).trans ((zu B2).mono (by have:=(zu B0).size;simp;omega))))
 go_wp2
 go_ret2
 have e:=zu S1
 rw[List.append_assoc] at e
 refine⟨a2,c2,?_,?_,zu B9⟩
 ·rw[←e];rfl
 ·rw[←e];exact(zu O2).mono (by have:=(zu B0).size;simp;omega)
end ISeal11
namespace Con16
open SBytes SPut11 ConB11
open ByteH (Own At info8)
theorem iConcat2(w:World)(b g1 o1 n1 c1 g2 o2 n2 c2:Nat)(p1 p2:List Int)(l1:p1.length=n1)(l2:p2.length=n2)(h20:n1+n2≤1048576)
  (hb:b<w.heap.size)(q1:g1<w.heap.size)(q2:g2<w.heap.size)(a1:AtO w g1 o1 p1)(a2:AtO w g2 o2 p2)
  (s1:w.cell? ⟨b,0,none⟩=some (.slice (some ⟨g1,o1,none⟩) n1 c1))(s2:w.cell? ⟨b,1,none⟩=some (.slice (some ⟨g2,o2,none⟩) n2 c2)):
  Calls Tryz.prog 207 #[.slice (some ⟨b,0,none⟩) 2 2] w fun e w'=>∃v,e= .returned v∧OwnV w' w.heap.size v (p1++p2)∧Below w.heap.size w w':=by
 have A1:=zh a1
 have A2:=zh a2
 clear a1 a2
 go_enter Tryz.func207,Tryz.ntmps207
 go_wp2
 go_loop [3,5,11] (fun q _ j=>∃(k:Nat) (z:Int),j= .int .i64 k∧q= .int .i64 z∧((k=0∧z=0)∨(k=1∧z=(n1:Int))∨(k=2∧z=(n1:Int)+(n2:Int)))) (fun _ _ j=>2-(intOf j).toNat)
 case atStart=>exact⟨0,0,rfl,rfl,.inl ⟨rfl,rfl⟩⟩
 case round=>
  obtain⟨k,z,rfl,rfl,hk⟩:=hrel
  rcases hk with⟨rfl,rfl⟩|⟨rfl,rfl⟩|⟨rfl,rfl⟩
  ·go_wp2
   go_round
   case rel=>exact⟨1,(n1:Int),by go_num,by go_num,.inr (.inl ⟨rfl,rfl⟩)⟩
   case measure=>simp[intOf]
  ·go_wp2
   go_round
   case rel=>exact⟨2,(n1:Int)+(n2:Int),by go_num,by go_num,.inr (.inr ⟨rfl,rfl⟩)⟩
   case measure=>simp[intOf]
  ·have GR:=zh (show Calls Tryz.prog 229 #[.slice none 0 0,.int .i64 ((n1:Int)+(n2:Int))] w fun e w'=>∃v,e= .returned v∧OwnV w' w.heap.size v []∧Below w.heap.size w w' from by
    by_cases z:n1+n2=0
    ·rw[show(n1:Int)+(n2:Int)=0 by omega]
     exact(grow_none w).mono fun _ _ ⟨he,hb⟩=>⟨_,he,OwnV.nil _ _,hb⟩
    ·have:=grow_some w (n1+n2) (by omega) h20
     rw[show((n1+n2:Nat):Int)=(n1:Int)+(n2:Int) by omega] at this
     exact this)
   go_wp2_with fail
   refine(zu GR).mono ?_
   rintro e w1 ⟨v,rfl,ov,b1⟩
   have OV:=zh ov
   have B1:=zh b1
   clear ov b1 GR
   go_wp2
   go_loopw [6,8,27] (fun x _ j wr=>∃(k:Nat) (v:Value) (out:List Int),j= .int .i64 k∧v=x∧Hid (OwnV wr w.heap.size v out)∧Hid (Below w.heap.size w wr)∧((k=0∧out=[])∨(k=1∧p1=out)∨(k=2∧out=p1++p2))) (fun _ _ j _=>2-(intOf j).toNat)
   case atStart=>exact⟨0,v,[],rfl,rfl,OV,B1,.inl ⟨rfl,rfl⟩⟩
   case round=>
   clear OV B1
   obtain⟨k,v,out,rfl,rfl,OV,HB,hk⟩:=hrel
   rcases hk with⟨rfl,rfl⟩|⟨rfl,rfl⟩|⟨rfl,rfl⟩
   ·have s:wr.cell? ⟨b,0,none⟩=some (.slice (some ⟨g1,o1,none⟩) n1 c1):=((zu HB).cell (p:=⟨b,0,none⟩) hb).trans s1
    have A:=zh (AtO.below (zu A1) (zu HB) q1)
    have bs:=(zu HB).size
    have LN:=zh (show([]:List Int).length+n1≤1048576 from by(try simp);omega)
    go_wp2_with (first|(at_builtin;refine wp_catV _ rfl _ _ rfl w.heap.size n1 v ([]:List Int) p1 g1 o1 c1 rfl rfl (zu OV) l1 (zu A) (zu LN) bs ?_)|go_in)
    intro v5 w5 ov5 gr5 loc5
    have O5:=zh (show OwnV w5 w.heap.size v5 (p1) from by have:=ov5;exact this)
    have B5:=zh ((zu HB).grown gr5 bs (fun j hj=>((zu OV).lt j hj).1))
    clear ov5 gr5 loc5 A s
    go_wp2
    go_roundw
    case rel=>exact⟨1,v5,p1,by go_num,rfl,O5,B5,.inr (.inl ⟨rfl,rfl⟩)⟩
    case measure=>simp[intOf]
   ·have s:wr.cell? ⟨b,1,none⟩=some (.slice (some ⟨g2,o2,none⟩) n2 c2):=((zu HB).cell (p:=⟨b,1,none⟩) hb).trans s2
    have A:=zh (AtO.below (zu A2) (zu HB) q2)
    have bs:=(zu HB).size
    have LN:=zh (show(p1).length+n2≤1048576 from by(try simp);omega)
    go_wp2_with (first|(at_builtin;refine wp_catV _ rfl _ _ rfl w.heap.size n2 v (p1) p2 g2 o2 c2 rfl rfl (zu OV) l2 (zu A) (zu LN) bs ?_)|go_in)
    intro v5 w5 ov5 gr5 loc5
    have O5:=zh (show OwnV w5 w.heap.size v5 (p1++p2) from by have:=ov5;exact this)
    have B5:=zh ((zu HB).grown gr5 bs (fun j hj=>((zu OV).lt j hj).1))
    clear ov5 gr5 loc5 A s
    go_wp2
    go_roundw
    case rel=>exact⟨2,v5,p1++p2,by go_num,rfl,O5,B5,.inr (.inr ⟨rfl,rfl⟩)⟩
    case measure=>simp[intOf]
   ·go_wp2
    go_ret
    exact⟨_,rfl,zu OV,zu HB⟩
end Con16
end Go.Proofs.YtlbgfdpcgpijhaaGreat
