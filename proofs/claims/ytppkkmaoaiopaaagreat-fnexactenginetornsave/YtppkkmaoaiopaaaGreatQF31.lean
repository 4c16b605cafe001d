/- Lemmas. -/
import Derived.Test.YtppkkmaoaiopaaaGreatQF5
import Derived.Lib.AppendZerosOnto
open Go.ChangeShapes Go.WideShapes Go.ChangeAt Go.RowKit
set_option linter.unusedVariables false
set_option linter.unusedSimpArgs false
set_option maxRecDepth 100000
set_option maxHeartbeats 32000000
namespace Go.Proofs.YtppkkmaoaiopaaaGreat
namespace ConB11
open SBytes SPut11
open ByteH (Own At info8)
def OwnV(w:World)(base:Nat)(v:Value)(xs:List Int):Prop:=w.ownsRow base 5 1 v xs.length (xs.map (Value.int .u8))
theorem OwnV.nil(w:World)(base:Nat):OwnV w base (.slice none 0 0) []:=⟨rfl,.inl ⟨rfl,rfl⟩⟩
theorem OwnV.lt{w:World}{base:Nat}{v:Value}{xs:List Int}(h:OwnV w base v xs):∀g,v.ownBlock=some g→base≤g∧g<w.heap.size:=fun g hg=>World.ownsRow.lt h g hg
theorem OwnV.ob{w:World}{base:Nat}{v:Value}{xs:List Int}(h:OwnV w base v xs):∃a c,v= .slice a xs.length c∧VOB.Ob w base a xs.length c xs:=by
 have h':=h
 rcases h.2 with⟨rfl,h2⟩|⟨g,c,cur,rfl,_⟩
 ·obtain rfl:xs=[]:=List.eq_nil_of_length_eq_zero h2
  exact⟨none,0,rfl,h'⟩
 ·exact⟨_,c,rfl,h'⟩
theorem AtO.below{w w':World}{g o B:Nat}{xs:List Int}(h:AtO w g o xs)(k:Below B w w')(hg:g<B):AtO w' g o xs:=fun i hi=>(k.cell (p:=⟨g,o+i,none⟩) hg).trans (h i hi)
theorem wp_catV(u:World){ops:Array Oper}{rest:List Oper}{o:Oper}{a:Act}{Q:Exit→Act→World→Prop}(hgd:o.guard=none)(s x:Operand)
  (ho:o.op= .call {callee:= .builtin .append,args:= #[s,x],argTypes:= #[142,142]})(base m:Nat)(v:Value)(ps qs:List Int)(vb off c:Nat)
  (hs:a.eval s=v)(hx:a.eval x= .slice (some ⟨vb,off,none⟩) m c)(hown:OwnV u base v ps)(hl:qs.length=m)(hv:AtO u vb off qs)(hn:ps.length+m≤1048576)(hb:base≤u.heap.size)
  (h:∀v' w',OwnV w' base v' (ps++qs)→u.grownBy w' v.ownBlock→(v'.ownBlock=v.ownBlock∨v'.ownBlock=some u.heap.size)→wpList Tryz.prog ops Q rest (a.put o.dst v') w'):wpList Tryz.prog ops Q (o::rest) a u:=by
 obtain⟨i0,hi,hz0,hz1,hz2⟩:=info_parts info8
 refine wpList_append_own_at u hgd s x 142 ho base 5 i0 (.int .u8 0) 1 1 Tryz.underlying142 hi hz0 hz1 hz2 rfl (by decide) v ps.length _ hs hown ⟨vb,off,none⟩ m c (qs.map (Value.int .u8)) hx (by simp[hl]) (fun j v hj=>by
  have hj':j<qs.length:=by
   have:=(List.getElem?_eq_some_iff.1 hj).1
   simpa using this
  have:=hv j hj'
  rw[Addr.add_lit,this]
  rw[←hj]
  simp[List.getD,hj']) (by intro u hu;obtain⟨y,_,rfl⟩:=List.mem_map.1 hu;simp[Value.oneCell']) (by unfold maxLen;omega) (by omega) hb ?_
 intro v' w' own' gr' nil' loc'
 refine h v' w' ?_ gr' loc'
 unfold OwnV
 rw[List.map_append,List.length_append,hl]
 exact own'
theorem grow_none(w:World):Calls Tryz.prog 170 #[.slice none 0 0,.int .i64 0] w fun e w'=>e= .returned (.slice none 0 0)∧Below w.heap.size w w':=by
 go_enter Tryz.func170,Tryz.ntmps170
 go_wp2
 go_ret
 exact⟨rfl,Below.refl _ _⟩
theorem grow_some(w:World)(k:Nat)(h0:0<k)(h20:k≤1048576):Calls Tryz.prog 170 #[.slice none 0 0,.int .i64 k] w fun e w'=>∃v,e= .returned v∧OwnV w' w.heap.size v []∧Below w.heap.size w w':=by
 obtain⟨i0,hi,hz0,hz1,hz2⟩:=info_parts info8
 have kp:(0:Int)<(k:Int):=by omega
 have hold:(Builtin.firstCells i0.size 0 (.slice none 0 0)).run Tryz.prog w.drew= .ok ([]:List Value).toArray w.drew:=run_firstCells_none _ _ _ _ _
 obtain⟨G,hG⟩:∃G,G=grownCap w k 0 5:=⟨_,rfl⟩
 have hG1:k≤G:=by rw[hG];exact grownCap_ge w _ _ _
 have hG2:G≤maxLen:=by rw[hG];exact grownCap_le_maxLen w _ _ _ (by unfold maxLen;omega)
 obtain⟨ROW,hROW⟩:∃ROW:Array Value,ROW=([]:List Value).toArray++Builtin.zeroCells (Value.int .u8 0).cells k++Builtin.zeroCells (Value.int .u8 0).cells (G-k):=⟨_,rfl⟩
 have hrz:∀ty,(Builtin.append_ #[142,3] ty #[.slice none 0 0,.int .i64 (k:Int)]).run Tryz.prog w= .ok (.slice (some ⟨w.heap.size,0,none⟩) k G) (w.drew.alloc (.cells ROW 5)):=fun ty=>by
  have h:=Lib.run_append_grow_zeros w 142 3 ty 5 i0 _ .i64 .i64 Tryz.underlying142 Tryz.underlying3 hi hz0 none 0 0 [] hold k h0 (by rw[hz1];decide) (by omega) (by omega) (by rw[hz2];omega) (by rw[hz2];exact growslice_fits (by omega) (by omega))
  rw[Nat.zero_add,←hG,←hROW] at h
  exact h
 have hRs:ROW.size=G*1:=by
  rw[hROW]
  simp[Builtin.zeroCells,Value.cells]
  try omega
 have OV:=zh (show OwnV (w.drew.alloc (.cells ROW 5)) w.heap.size (.slice (some ⟨w.heap.size,0,none⟩) 0 G) [] from⟨rfl,.inr ⟨w.heap.size,G,ROW,rfl,Nat.le_refl _,heap_alloc_new w.drew _,Nat.zero_le _,hG2,hRs,by simp⟩⟩)
 have BB:=zh (show Below w.heap.size w (w.drew.alloc (.cells ROW 5)) from(Below.refl _ _).drew.alloc (Nat.le_refl _) _)
 have G63:(G:Int)≤9223372036854775807:=by unfold maxLen at hG2;omega
 clear hold hROW hRs hG hi hz0 hz1 hz2
 go_enter Tryz.func170,Tryz.ntmps170
 go_wp2_with (first|(at_builtin;refine Lib.wpList_append_run _ rfl _ _ _ _ rfl _ _ rfl rfl _ _ (hrz _) ?_)|go_in)
 go_ret
 exact⟨_,rfl,zu OV,zu BB⟩
theorem iConcat(w:World)(b g1 o1 n1 c1 g2 o2 n2 c2 g3 o3 n3 c3:Nat)(p1 p2 p3:List Int)(l1:p1.length=n1)(l2:p2.length=n2)(l3:p3.length=n3)(h20:n1+n2+n3≤1048576)
  (hb:b<w.heap.size)(q1:g1<w.heap.size)(q2:g2<w.heap.size)(q3:g3<w.heap.size)(a1:AtO w g1 o1 p1)(a2:AtO w g2 o2 p2)(a3:AtO w g3 o3 p3)
  (s1:w.cell? ⟨b,0,none⟩=some (.slice (some ⟨g1,o1,none⟩) n1 c1))(s2:w.cell? ⟨b,1,none⟩=some (.slice (some ⟨g2,o2,none⟩) n2 c2))(s3:w.cell? ⟨b,2,none⟩=some (.slice (some ⟨g3,o3,none⟩) n3 c3)):
  Calls Tryz.prog 146 #[.slice (some ⟨b,0,none⟩) 3 3] w fun e w'=>∃v,e= .returned v∧OwnV w' w.heap.size v (p1++(p2++p3))∧Below w.heap.size w w':=by
 have A1:=zh a1
 have A2:=zh a2
 have A3:=zh a3
 clear a1 a2 a3
 go_enter Tryz.func146,Tryz.ntmps146
 go_wp2
 go_loop [3,5,11] (fun q _ j=>∃(k:Nat) (z:Int),j= .int .i64 k∧q= .int .i64 z∧((k=0∧z=0)∨(k=1∧z=(n1:Int))∨(k=2∧z=(n1:Int)+(n2:Int))∨(k=3∧z=(n1:Int)+(n2:Int)+(n3:Int)))) (fun _ _ j=>3-(intOf j).toNat)
 case atStart=>exact⟨0,0,rfl,rfl,.inl ⟨rfl,rfl⟩⟩
 case round=>
  obtain⟨k,z,rfl,rfl,hk⟩:=hrel
  rcases hk with⟨rfl,rfl⟩|⟨rfl,rfl⟩|⟨rfl,rfl⟩|⟨rfl,rfl⟩
  ·go_wp2
   go_round
   case rel=>exact⟨1,(n1:Int),by go_num,by go_num,.inr (.inl ⟨rfl,rfl⟩)⟩
   case measure=>simp[intOf]
  ·go_wp2
   go_round
   case rel=>exact⟨2,(n1:Int)+(n2:Int),by go_num,by go_num,.inr (.inr (.inl ⟨rfl,rfl⟩))⟩
   case measure=>simp[intOf]
  ·go_wp2
   go_round
   case rel=>exact⟨3,(n1:Int)+(n2:Int)+(n3:Int),by go_num,by go_num,.inr (.inr (.inr ⟨rfl,rfl⟩))⟩
   case measure=>simp[intOf]
  ·have GR:=zh (show Calls Tryz.prog 170 #[.slice none 0 0,.int .i64 ((n1:Int)+(n2:Int)+(n3:Int))] w fun e w'=>∃v,e= .returned v∧OwnV w' w.heap.size v []∧Below w.heap.size w w' from by
    by_cases z:n1+n2+n3=0
    ·rw[show(n1:Int)+(n2:Int)+(n3:Int)=0 by omega]
     exact(grow_none w).mono fun _ _ ⟨he,hb⟩=>⟨_,he,OwnV.nil _ _,hb⟩
    ·have:=grow_some w (n1+n2+n3) (by omega) h20
     rw[show((n1+n2+n3:Nat):Int)=(n1:Int)+(n2:Int)+(n3:Int) by omega] at this
     exact this)
   go_wp2_with fail
   refine(zu GR).mono ?_
   rintro e w1 ⟨v,rfl,ov,b1⟩
   have OV:=zh ov
   have B1:=zh b1
   clear ov b1 GR
   go_wp2
   go_loopw [6,8,27] (fun x _ j wr=>∃(k:Nat) (v:Value) (out:List Int),j= .int .i64 k∧v=x∧Hid (OwnV wr w.heap.size v out)∧Hid (Below w.heap.size w wr)∧((k=0∧out=[])∨(k=1∧p1=out)∨(k=2∧out=p1++p2)∨(k=3∧out=p1++(p2++p3)))) (fun _ _ j _=>3-(intOf j).toNat)
   case atStart=>exact⟨0,v,[],rfl,rfl,OV,B1,.inl ⟨rfl,rfl⟩⟩
   case round=>
   clear OV B1
   obtain⟨k,v,out,rfl,rfl,OV,HB,hk⟩:=hrel
   rcases hk with⟨rfl,rfl⟩|⟨rfl,rfl⟩|⟨rfl,rfl⟩|⟨rfl,rfl⟩
   ·have s:wr.cell? ⟨b,0,none⟩=some (.slice (some ⟨g1,o1,none⟩) n1 c1):=((zu HB).cell (p:=⟨b,0,none⟩) hb).trans s1
    have A:=zh (AtO.below (zu A1) (zu HB) q1)
    have bs:=(zu HB).size
    have LN:=zh (show([]:List Int).length+n1≤1048576 from by(try simp);omega)
    go_wp2_with (first|(at_builtin;refine wp_catV _ rfl _ _ rfl w.heap.size n1 v ([]:List Int) p1 g1 o1 c1 rfl rfl (zu OV) l1 (zu A) (zu LN) bs ?_)|go_in)
    intro v5 w5 ov5 gr5 loc5
    have O5:=zh (show OwnV w5 w.heap.size v5 (p1) from by have:=ov5;exact this)
    have B5:=zh ((zu HB).grown gr5 bs (fun j hj=>((zu OV).lt j hj).1))
    clear ov5 gr5 loc5 A s
    go_wp2
    go_roundw
    case rel=>exact⟨1,v5,p1,by go_num,rfl,O5,B5,.inr (.inl ⟨rfl,rfl⟩)⟩
    case measure=>simp[intOf]
   ·have s:wr.cell? ⟨b,1,none⟩=some (.slice (some ⟨g2,o2,none⟩) n2 c2):=((zu HB).cell (p:=⟨b,1,none⟩) hb).trans s2
    have A:=zh (AtO.below (zu A2) (zu HB) q2)
    have bs:=(zu HB).size
    have LN:=zh (show(p1).length+n2≤1048576 from by(try simp);omega)
    go_wp2_with (first|(at_builtin;refine wp_catV _ rfl _ _ rfl w.heap.size n2 v (p1) p2 g2 o2 c2 rfl rfl (zu OV) l2 (zu A) (zu LN) bs ?_)|go_in)
    intro v5 w5 ov5 gr5 loc5
    have O5:=zh (show OwnV w5 w.heap.size v5 (p1++p2) from by have:=ov5;exact this)
    have B5:=zh ((zu HB).grown gr5 bs (fun j hj=>((zu OV).lt j hj).1))
    clear ov5 gr5 loc5 A s
    go_wp2
    go_roundw
    case rel=>exact⟨2,v5,p1++p2,by go_num,rfl,O5,B5,.inr (.inr (.inl ⟨rfl,rfl⟩))⟩
    case measure=>simp[intOf]
   ·have s:wr.cell? ⟨b,2,none⟩=some (.slice (some ⟨g3,o3,none⟩) n3 c3):=((zu HB).cell (p:=⟨b,2,none⟩) hb).trans s3
    have A:=zh (AtO.below (zu A3) (zu HB) q3)
    have bs:=(zu HB).size
    have LN:=zh (show(p1++p2).length+n3≤1048576 from by(try simp);omega)
    go_wp2_with (first|(at_builtin;refine wp_catV _ rfl _ _ rfl w.heap.size n3 v (p1++p2) p3 g3 o3 c3 rfl rfl (zu OV) l3 (zu A) (zu LN) bs ?_)|go_in)
    intro v5 w5 ov5 gr5 loc5
    have O5:=zh (show OwnV w5 w.heap.size v5 (p1++(p2++p3)) from by first|exact ov5|(have:=ov5;rw[List.append_assoc] at this;exact this))
    have B5:=zh ((zu HB).grown gr5 bs (fun j hj=>((zu OV).lt j hj).1))
    clear ov5 gr5 loc5 A s
    go_wp2
    go_roundw
    case rel=>exact⟨3,v5,p1++(p2++p3),by go_num,rfl,O5,B5,.inr (.inr (.inr ⟨rfl,rfl⟩))⟩
    case measure=>simp[intOf]
   ·go_wp2
    go_ret
    exact⟨_,rfl,zu OV,zu HB⟩
end ConB11
namespace Con16
open SBytes SPut11 ConB11
open ByteH (Own At info8)
theorem iConcat2(w:World)(b g1 o1 n1 c1 g2 o2 n2 c2:Nat)(p1 p2:List Int)(l1:p1.length=n1)(l2:p2.length=n2)(h20:n1+n2≤1048576)
  (hb:b<w.heap.size)(q1:g1<w.heap.size)(q2:g2<w.heap.size)(a1:AtO w g1 o1 p1)(a2:AtO w g2 o2 p2)
  (s1:w.cell? ⟨b,0,none⟩=some (.slice (some ⟨g1,o1,none⟩) n1 c1))(s2:w.cell? ⟨b,1,none⟩=some (.slice (some ⟨g2,o2,none⟩) n2 c2)):
  Calls Tryz.prog 146 #[.slice (some ⟨b,0,none⟩) 2 2] w fun e w'=>∃v,e= .returned v∧OwnV w' w.heap.size v (p1++p2)∧Below w.heap.size w w':=by
 have A1:=zh a1
 have A2:=zh a2
 clear a1 a2
 go_enter Tryz.func146,Tryz.ntmps146
 go_wp2
 go_loop [3,5,11] (fun q _ j=>∃(k:Nat) (z:Int),j= .int .i64 k∧q= .int .i64 z∧((k=0∧z=0)∨(k=1∧z=(n1:Int))∨(k=2∧z=(n1:Int)+(n2:Int)))) (fun _ _ j=>2-(intOf j).toNat)
 case atStart=>exact⟨0,0,rfl,rfl,.inl ⟨rfl,rfl⟩⟩
 case round=>
  obtain⟨k,z,rfl,rfl,hk⟩:=hrel
  rcases hk with⟨rfl,rfl⟩|⟨rfl,rfl⟩|⟨rfl,rfl⟩
  ·go_wp2
   go_round
   case rel=>exact⟨1,(n1:Int),by go_num,by go_num,.inr (.inl ⟨rfl,rfl⟩)⟩
   case measure=>simp[intOf]
  ·go_wp2
   go_round
   case rel=>exact⟨2,(n1:Int)+(n2:Int),by go_num,by go_num,.inr (.inr ⟨rfl,rfl⟩)⟩
   case measure=>simp[intOf]
  ·have GR:=zh (show Calls Tryz.prog 170 #[.slice none 0 0,.int .i64 ((n1:Int)+(n2:Int))] w fun e w'=>∃v,e= .returned v∧OwnV w' w.heap.size v []∧Below w.heap.size w w' from by
    by_cases z:n1+n2=0
    ·rw[show(n1:Int)+(n2:Int)=0 by omega]
     exact(grow_none w).mono fun _ _ ⟨he,hb⟩=>⟨_,he,OwnV.nil _ _,hb⟩
    ·have:=grow_some w (n1+n2) (by omega) h20
     rw[show((n1+n2:Nat):Int)=(n1:Int)+(n2:Int) by omega] at this
     exact this)
   go_wp2_with fail
   refine(zu GR).mono ?_
   rintro e w1 ⟨v,rfl,ov,b1⟩
   have OV:=zh ov
   have B1:=zh b1
   clear ov b1 GR
   go_wp2
   go_loopw [6,8,27] (fun x _ j wr=>∃(k:Nat) (v:Value) (out:List Int),j= .int .i64 k∧v=x∧Hid (OwnV wr w.heap.size v out)∧Hid (Below w.heap.size w wr)∧((k=0∧out=[])∨(k=1∧p1=out)∨(k=2∧out=p1++p2))) (fun _ _ j _=>2-(intOf j).toNat)
   case atStart=>exact⟨0,v,[],rfl,rfl,OV,B1,.inl ⟨rfl,rfl⟩⟩
   case round=>
   clear OV B1
   obtain⟨k,v,out,rfl,rfl,OV,HB,hk⟩:=hrel
   rcases hk with⟨rfl,rfl⟩|⟨rfl,rfl⟩|⟨rfl,rfl⟩
   ·have s:wr.cell? ⟨b,0,none⟩=some (.slice (some ⟨g1,o1,none⟩) n1 c1):=((zu HB).cell (p:=⟨b,0,none⟩) hb).trans s1
    have A:=zh (AtO.below (zu A1) (zu HB) q1)
    have bs:=(zu HB).size
    have LN:=zh (show([]:List Int).length+n1≤1048576 from by(try simp);omega)
    go_wp2_with (first|(at_builtin;refine wp_catV _ rfl _ _ rfl w.heap.size n1 v ([]:List Int) p1 g1 o1 c1 rfl rfl (zu OV) l1 (zu A) (zu LN) bs ?_)|go_in)
    intro v5 w5 ov5 gr5 loc5
    have O5:=zh (show OwnV w5 w.heap.size v5 (p1) from by have:=ov5;exact this)
    have B5:=zh ((zu HB).grown gr5 bs (fun j hj=>((zu OV).lt j hj).1))
    clear ov5 gr5 loc5 A s
    go_wp2
    go_roundw
    case rel=>exact⟨1,v5,p1,by go_num,rfl,O5,B5,.inr (.inl ⟨rfl,rfl⟩)⟩
    case measure=>simp[intOf]
   ·have s:wr.cell? ⟨b,1,none⟩=some (.slice (some ⟨g2,o2,none⟩) n2 c2):=((zu HB).cell (p:=⟨b,1,none⟩) hb).trans s2
    have A:=zh (AtO.below (zu A2) (zu HB) q2)
    have bs:=(zu HB).size
    have LN:=zh (show(p1).length+n2≤1048576 from by(try simp);omega)
    go_wp2_with (first|(at_builtin;refine wp_catV _ rfl _ _ rfl w.heap.size n2 v (p1) p2 g2 o2 c2 rfl rfl (zu OV) l2 (zu A) (zu LN) bs ?_)|go_in)
    intro v5 w5 ov5 gr5 loc5
    have O5:=zh (show OwnV w5 w.heap.size v5 (p1++p2) from by have:=ov5;exact this)
    have B5:=zh ((zu HB).grown gr5 bs (fun j hj=>((zu OV).lt j hj).1))
    clear ov5 gr5 loc5 A s
    go_wp2
    go_roundw
    case rel=>exact⟨2,v5,p1++p2,by go_num,rfl,O5,B5,.inr (.inr ⟨rfl,rfl⟩)⟩
    case measure=>simp[intOf]
   ·go_wp2
    go_ret
    exact⟨_,rfl,zu OV,zu HB⟩
end Con16
end Go.Proofs.YtppkkmaoaiopaaaGreat
