/- Lemmas. -/
import Derived.Test.YtcjgepkdpkhljaaGreatQG23
import Derived.WalkSmall
open Go.ChangeShapes Go.WideShapes Go.ChangeAt Go.RowKit
set_option linter.unusedVariables false
set_option linter.unusedSimpArgs false
set_option maxRecDepth 100000
set_option maxHeartbeats 32000000
namespace Go.Proofs.YtcjgepkdpkhljaaGreat
namespace SOrder
open Ints Weigh Quota Order
theorem own_of_row{w:World}{base n:Nat}{v:Value}{vs:List Value}{xs:List Int}(h:w.ownsRow base 3 1 v n vs)(e:vs=xs.map (Value.int .i64))(hv:¬v= .slice none 0 0):
  ∃g c,v= .slice (some ⟨g,0,none⟩) n c∧Own w base g n c xs:=by
 subst e
 have h':=h
 rcases h.2 with⟨h1,_⟩|⟨g,c,cur,rfl,_⟩
 ·exact absurd h1 hv
 ·exact⟨g,c,rfl,h'⟩
theorem own_of_row'{w:World}{base n n':Nat}{v:Value}{vs:List Value}{xs:List Int}(h:w.ownsRow base 3 1 v n vs)(hn:n=n')(e:vs=xs.map (Value.int .i64))(hv:¬v= .slice none 0 0):
  ∃g c,v= .slice (some ⟨g,0,none⟩) n' c∧Own w base g n' c xs:=by
 subst hn
 exact own_of_row h e hv
theorem Own.alloc{w:World}{base g n cap:Nat}{xs:List Int}(h:Own w base g n cap xs)(o:Obj):Own (w.alloc o) base g n cap xs:=World.ownsRow.alloc h o
theorem lit0(w:World)(base:Nat)(hb:base≤w.heap.size):Own (w.alloc (.cells #[] 3)) base w.heap.size 0 0 []:=World.ownsRow_lit w #[] 0 hb (by decide) rfl
theorem one_cell(w:World)(x:Int):∀(j:Nat) (u:Value),[Value.int .i64 x][j]?=some u→(w.alloc (.cells #[Value.int .i64 x] 3)).cell? ((⟨w.heap.size,0,none⟩:Addr).add j)=some u:=by
 intro j u hj
 match j,hj with
 |0,hj=>simp at hj;subst hj;simp[Addr.add]
theorem one_one(x:Int):∀u∈[Value.int .i64 x],u.oneCell'=true:=by
 intro u hu;simp at hu;subst hu;rfl
theorem part_cells{w:World}{base g n cap:Nat}{xs:List Int}(h:Own w base g n cap xs)(i m:Nat)(ad:Addr)(had:m=0∨ad=⟨g,i,none⟩)(hm:i+m≤n):
  ∀(j:Nat) (u:Value),(((xs.drop i).take m).map (Value.int .i64))[j]?=some u→w.cell? (ad.add j)=some u:=by
 intro j u hu
 have hj:j<m:=by
  have:=(List.getElem?_eq_some_iff.1 hu).1
  simp at this
  omega
 rcases had with rfl|rfl
 ·omega
 have hl:=h.len
 rw[Addr.add_lit]
 rw[h.at (i+j) (by omega)]
 rw[←hu,List.getElem?_map,List.getElem?_take,if_pos hj,List.getElem?_drop,List.getElem?_eq_getElem (by omega)]
 simp[List.getD,show i+j<xs.length by omega]
theorem ints_split(L:List Nat)(j k:Nat):ints (L.take j++k::L.drop j)=(ints L).take j++[(k:Int)]++(ints L).drop j:=by
 simp[ints]
theorem sOrder_good(w:World)(t:Int)(g n cap:Nat)(xs:List Int)(hl:xs.length=n)(hg:g<w.heap.size)(h:At w g xs)(good:Weigh.Good xs)(ht:Tot t):
  Calls Tryz.prog 106 #[.int .i64 t,.slice (some ⟨g,0,none⟩) n cap] w fun e w'=>∃L g' c,IsOrder t xs n L∧e= .returned (.slice (some ⟨g',0,none⟩) n c)∧Own w' w.heap.size g' n c (ints L)∧Below w.heap.size w w':=by
 have n40:n≤40:=by have:=good.1.2;omega
 have GT:=zh (And.intro good ht)
 have H:=zh h
 have HG:=zh hg
 obtain⟨i0,hi,hz0,hz1,hz2⟩:=info_parts info3
 clear good ht h hg
 go_enter Tryz.func106,Tryz.ntmps106
 go_wp2_with fail
 refine(sWeights _ g n cap xs true hl (by omega) ((zu H).below (Below.alloc (Below.refl _ _) (Nat.le_refl _) _) (zu HG)) (zh ⟨fun _=>(zu GT).1,fun _=>rfl⟩)).mono ?_
 rintro e w1 ⟨rfl,hw1⟩
 go_wp2_with fail
 refine(sSome t 0 true _ (zh ⟨fun _=>(zu GT).2,fun _=>rfl⟩)).mono ?_
 rintro e w2 ⟨rfl,hw2⟩
 subst hw2
 subst hw1
 go_wp2_with fail
 go_loopw [5,6,7] (fun o l i wr=>∃(k:Nat) (L:List Nat) (gO cO gL cL:Nat),k≤n∧i= .int .i64 k∧o= .slice (some ⟨gO,0,none⟩) k cO∧l= .slice (some ⟨gL,0,none⟩) k cL∧
   gO≠gL∧Own wr w.heap.size gO k cO (ints L)∧Own wr w.heap.size gL k cL (rests t xs k)∧IsOrder t xs k L∧Below w.heap.size w wr) (fun _ _ i _=>n-(intOf i).toNat)
 case atStart=>
  have a1:=lit0 w w.heap.size (Nat.le_refl _)
  have a2:Own ((w.alloc (.cells #[] 3)).alloc (.cells #[] 3)) w.heap.size (w.heap.size+1) 0 0 (rests t xs 0):=by
   have:=lit0 (w.alloc (.cells #[] 3)) w.heap.size (by simp)
   rwa [World.size_alloc] at this
  refine⟨0,[],_,_,_,_,by omega,rfl,rfl,rfl,?_,Own.alloc a1 _,a2,⟨List.Perm.refl _,List.Pairwise.nil⟩,?_⟩
  ·simp
  ·exact((Below.refl _ _).alloc (Nat.le_refl _) _).alloc (by simp) _
 case round=>
  obtain⟨k,L,gO,cO,gL,cL,hk,rfl,rfl,rfl,hne,ownO,ownL,ord,hb⟩:=hrel
  by_cases lt:k<n
  ·have c1:=sQuota wr t k (Q t xs k) (R t xs k) true g n cap xs hl (by omega) ((zu H).below hb (zu HG)) (zh (Or.inl ⟨(zu GT).1,(zu GT).2,⟨by omega,by omega⟩,by simp,by simp,rfl⟩))
   go_wp2_with fail
   refine c1.mono ?_
   rintro e w1 ⟨rfl,m,rfl⟩
   have ownO1:Own (wr.drewN m) w.heap.size gO k cO (ints L):=ownO
   have ownL1:Own (wr.drewN m) w.heap.size gL k cL (rests t xs k):=ownL
   have hb1:Below w.heap.size w (wr.drewN m):=below_drewN hb m
   clear ownO ownL hb c1
   generalize wr.drewN m=w1 at *
   have hs1:=hb1.size
   go_wp2_with (at_builtin;refine wpList_append_own _ rfl (.tmp 38) (.tmp 40) 24 rfl w.heap.size 3 i0 (.int .i64 0) 1 8 Tryz.underlying24 hi hz0 hz1 hz2 rfl (by decide) (.slice (some ⟨gL,0,none⟩) k cL) k _ rfl (Own.alloc ownL1 _) ⟨w1.heap.size,0,none⟩ 1 1 [.int .i64 (R t xs k)] rfl rfl (one_cell w1 _) (one_one _) (by unfold maxLen;omega) (by omega) (by simp;omega) ?_;intro v2 w2 own2 (gr2:World.grownBy _ w2 (some gL)) nil2)
   obtain⟨gL2,cL2,rfl,ownL2⟩:=own_of_row (xs:=rests t xs (k+1)) own2 (by rw[rests_succ];simp) (by rw[nil2];simp)
   have ownO2:=Own.kept (Own.alloc ownO1 (.cells #[Value.int .i64 (R t xs k)] 3)) gr2 (by simpa using hne)
   have hb2:Below w.heap.size w w2:=(hb1.alloc hs1 _).grown gr2 (by simp;omega) (by simpa using ownL1.lt.1)
   have hs2:=hb2.size
   have lO:=ownO2.lt
   have lL:=ownL2.lt
   have lenL:=ord.len
   have cO0:k≤cO:=by
    rcases ownO2.2 with⟨z,_⟩|⟨_,c',_,z,_,_,z2,_⟩
    ·simp at z
    ·simp at z;omega
   clear own2 gr2 nil2 ownO1 ownL1 hb1
   go_loop [11] (fun j=>∃p:Nat,p≤k∧j= .int .i64 p∧Hid (∀i,p≤i→i<k→R t xs (L.getD i 0)<R t xs k)) (fun j=>(intOf j).toNat)
   case atStart=>exact⟨k,by omega,rfl,zh (fun i h1 h2=>by omega)⟩
   case round=>
    obtain⟨p,hp,rfl,HD⟩:=hrel
    cases p with
    |zero=>
     by_cases hc:cO=0
     ·obtain rfl:k=0:=by omega
      subst hc
      go_wp2_with (at_builtin;refine wpList_append_own _ rfl (.tmp 60) (.tmp 63) 24 rfl w2.heap.size 3 i0 (.int .i64 0) 1 8 Tryz.underlying24 hi hz0 hz1 hz2 rfl (by decide) (.slice (some ⟨w2.heap.size,0,none⟩) 0 0) 0 _ rfl (lit0 w2 _ (Nat.le_refl _)) ⟨gO,0,none⟩ (0) (0) ((((ints L).drop 0).take (0)).map (Value.int .i64)) rfl (by simp[ints_len,lenL]<;>omega) (part_cells (Own.alloc ownO2 _) 0 (0) _ (Or.inr rfl) (by omega)) (ints_oneCell _ _) (by unfold maxLen;omega) (by omega) (by simp) ?_)
      intro v3 w3 own3 (gr3:World.grownBy _ w3 (some w2.heap.size)) nil3
      obtain⟨g3,c3,rfl,o3⟩:=own_of_row' (n':=0) (xs:=(ints L).take (0)) own3 (by omega) (by simp) (by first|exact nil3|(rw[nil3];simp))
      have hs3:=gr3.size
      have o3':=Own.alloc o3 (.cells #[Value.int .i64 ((0:Nat):Int)] 3)
      have ownO3:=Own.kept (Own.alloc ownO2 (.cells #[] 3)) gr3 (by simp;omega)
      have ownL3:=Own.kept (Own.alloc ownL2 (.cells #[] 3)) gr3 (by simp;omega)
      have hb3:Below w.heap.size w w3:=(hb2.alloc hs2 _).grown gr3 (by simp;omega) (by simp;omega)
      have lg3:=o3.lt
      rw[World.size_alloc] at hs3
      clear own3 gr3 nil3
      go_wp2_with (at_builtin;refine wpList_append_own _ rfl (.tmp 65) (.tmp 67) 24 rfl w2.heap.size 3 i0 (.int .i64 0) 1 8 Tryz.underlying24 hi hz0 hz1 hz2 rfl (by decide) (.slice (some ⟨g3,0,none⟩) (0) c3) (0) _ rfl o3' ⟨w3.heap.size,0,none⟩ 1 1 [.int .i64 ((0:Nat):Int)] rfl rfl (one_cell w3 _) (one_one _) (by unfold maxLen;omega) (by omega) (by simp;omega) ?_)
      intro v4 w4 own4 (gr4:World.grownBy _ w4 (some g3)) nil4
      obtain⟨g4,c4,rfl,o4⟩:=own_of_row' (n':=0+1) (xs:=(ints L).take (0)++[((0:Nat):Int)]) own4 (by omega) (by simp) (by first|exact nil4|(rw[nil4];simp))
      have hs4:=gr4.size
      have ownO4:=Own.kept (Own.alloc ownO3 (.cells #[Value.int .i64 ((0:Nat):Int)] 3)) gr4 (by simp;omega)
      have ownL4:=Own.kept (Own.alloc ownL3 (.cells #[Value.int .i64 ((0:Nat):Int)] 3)) gr4 (by simp;omega)
      have hb4:Below w.heap.size w w4:=(hb3.alloc (by omega) _).grown gr4 (by simp;omega) (by simp;omega)
      have lg4:=o4.lt
      rw[World.size_alloc] at hs4
      clear own4 gr4 nil4 o3' o3
      have ord5:=ord.insert (0) (by omega) (zu HD) (Or.inl rfl)
      have o5:Own w4 w2.heap.size g4 ((0)+1) c4 (ints (L.take (0)++(0)::L.drop (0))):=by
       rw[ints_split,List.drop_of_length_le (by rw[ints_len,lenL];omega),List.append_nil]
       exact o4
      have lg5:=o5.lt
      go_wp2_with (at_builtin;refine wpList_append_own _ rfl (.tmp 69) (.tmp 72) 24 rfl w2.heap.size 3 i0 (.int .i64 0) 1 8 Tryz.underlying24 hi hz0 hz1 hz2 rfl (by decide) (.slice (some ⟨g4,0,none⟩) ((0)+1) c4) ((0)+1) _ rfl o5 ⟨gO,0,none⟩ 0 0 [] rfl rfl (by intro j u hj;simp at hj) (by intro u hu;simp at hu) (by unfold maxLen;omega) (by omega) (by omega) ?_)
      intro v5 w5 own5 (gr5:World.grownBy _ w5 (some g4)) nil5
      obtain⟨g5,c5,rfl,o6⟩:=own_of_row' (n':=(0)+1) (xs:=ints (L.take (0)++(0)::L.drop (0))) own5 (by omega) (by simp) (by first|exact nil5|(rw[nil5];simp))
      have hs5:=gr5.size
      have ownL5:=Own.kept ownL4 gr5 (by simp;omega)
      have hb5:Below w.heap.size w w5:=hb4.grown gr5 (by omega) (by simp;omega)
      have lg6:=o6.lt
      clear own5 gr5 nil5 o5 o4 ownO4 ownO3 ownL4 ownL3 ownO2 ownL2
      go_wp2
      go_roundw
      case rel=>exact⟨(0)+1,_,g5,c5,gL2,cL2,by omega,by go_num,by go_num,by go_num,by omega,Own.mono o6 (by omega),ownL5,ord5,hb5⟩
      case measure=>simp[intOf];omega
     ·have HT':=zh (show(0:Nat)=0∨R t xs k≤R t xs (L.getD (0-1) 0) from Or.inl rfl)
      go_wp2_with (at_builtin;refine wpList_append_own _ rfl (.tmp 60) (.tmp 63) 24 rfl w2.heap.size 3 i0 (.int .i64 0) 1 8 Tryz.underlying24 hi hz0 hz1 hz2 rfl (by decide) (.slice (some ⟨w2.heap.size,0,none⟩) 0 0) 0 _ rfl (lit0 w2 _ (Nat.le_refl _)) ⟨gO,0,none⟩ (0) cO ((((ints L).drop 0).take (0)).map (Value.int .i64)) rfl (by simp[ints_len,lenL]<;>omega) (part_cells (Own.alloc ownO2 _) 0 (0) _ (Or.inr rfl) (by omega)) (ints_oneCell _ _) (by unfold maxLen;omega) (by omega) (by simp) ?_)
      intro v3 w3 own3 (gr3:World.grownBy _ w3 (some w2.heap.size)) nil3
      obtain⟨g3,c3,rfl,o3⟩:=own_of_row' (n':=0) (xs:=(ints L).take (0)) own3 (by omega) (by simp) (by first|exact nil3|(rw[nil3];simp))
      have hs3:=gr3.size
      have o3':=Own.alloc o3 (.cells #[Value.int .i64 (k:Int)] 3)
      have ownO3:=Own.kept (Own.alloc ownO2 (.cells #[] 3)) gr3 (by simp;omega)
      have ownL3:=Own.kept (Own.alloc ownL2 (.cells #[] 3)) gr3 (by simp;omega)
      have hb3:Below w.heap.size w w3:=(hb2.alloc hs2 _).grown gr3 (by simp;omega) (by simp;omega)
      have lg3:=o3.lt
      rw[World.size_alloc] at hs3
      clear own3 gr3 nil3
      go_wp2_with (at_builtin;refine wpList_append_own _ rfl (.tmp 65) (.tmp 67) 24 rfl w2.heap.size 3 i0 (.int .i64 0) 1 8 Tryz.underlying24 hi hz0 hz1 hz2 rfl (by decide) (.slice (some ⟨g3,0,none⟩) (0) c3) (0) _ rfl o3' ⟨w3.heap.size,0,none⟩ 1 1 [.int .i64 (k:Int)] rfl rfl (one_cell w3 _) (one_one _) (by unfold maxLen;omega) (by omega) (by simp;omega) ?_)
      intro v4 w4 own4 (gr4:World.grownBy _ w4 (some g3)) nil4
      obtain⟨g4,c4,rfl,o4⟩:=own_of_row' (n':=0+1) (xs:=(ints L).take (0)++[(k:Int)]) own4 (by omega) (by simp) (by first|exact nil4|(rw[nil4];simp))
      have hs4:=gr4.size
      have ownO4:=Own.kept (Own.alloc ownO3 (.cells #[Value.int .i64 (k:Int)] 3)) gr4 (by simp;omega)
      have ownL4:=Own.kept (Own.alloc ownL3 (.cells #[Value.int .i64 (k:Int)] 3)) gr4 (by simp;omega)
      have hb4:Below w.heap.size w w4:=(hb3.alloc (by omega) _).grown gr4 (by simp;omega) (by simp;omega)
      have lg4:=o4.lt
      rw[World.size_alloc] at hs4
      clear own4 gr4 nil4 o3' o3
      go_wp2_with (at_builtin;refine wpList_append_own _ rfl (.tmp 69) (.tmp 72) 24 rfl w2.heap.size 3 i0 (.int .i64 0) 1 8 Tryz.underlying24 hi hz0 hz1 hz2 rfl (by decide) (.slice (some ⟨g4,0,none⟩) (0+1) c4) (0+1) _ rfl o4 ⟨gO,0,none⟩ (k-(0)) (cO-(0)) ((((ints L).drop (0)).take (k-(0))).map (Value.int .i64)) rfl (by simp[ints_len,lenL]) (part_cells ownO4 (0) (k-(0)) _ (Or.inr rfl) (by omega)) (ints_oneCell _ _) (by unfold maxLen;omega) (by omega) (by omega) ?_)
      intro v5 w5 own5 (gr5:World.grownBy _ w5 (some g4)) nil5
      obtain⟨g5,c5,rfl,o5⟩:=own_of_row' (n':=k+1) (xs:=ints (L.take (0)++k::L.drop (0))) own5 (by omega) (by rw[ints_split];simp[List.take_of_length_le,ints_len,lenL]) (by first|exact nil5|(rw[nil5];simp))
      have hs5:=gr5.size
      have ownL5:=Own.kept ownL4 gr5 (by simp;omega)
      have hb5:Below w.heap.size w w5:=hb4.grown gr5 (by omega) (by simp;omega)
      have lg5:=o5.lt
      have ord5:=ord.insert (0) (by omega) (zu HD) (Or.inl rfl)
      clear own5 gr5 nil5 o4 ownO4 ownO3 ownL4 ownL3 ownO2 ownL2
      go_wp2
      go_roundw
      case rel=>exact⟨k+1,_,g5,c5,gL2,cL2,by omega,by go_num,rfl,rfl,by omega,Own.mono o5 (by omega),ownL5,ord5,hb5⟩
      case measure=>simp[intOf];omega
    |succ q=>
     have e1:=ownO2.at q (by rw[ints_len,lenL];omega)
     rw[ints_getD] at e1
     have ha:=ord.getD_lt q (by omega)
     have e2:=ownL2.at (L.getD q 0) (by rw[rests_len];omega)
     rw[rests_getD t xs (k+1) _ (by omega)] at e2
     have HQ:=zh (show R t xs (L.getD q 0)<R t xs k→∀i,q≤i→i<k→R t xs (L.getD i 0)<R t xs k from fun h i h1 h2=>by
      by_cases e:i=q
      ·subst e;exact h
      ·exact zu HD i (by omega) h2)
     have HT:=zh (show ¬R t xs (L.getD q 0)<R t xs k→(q+1=0∨R t xs k≤R t xs (L.getD (q+1-1) 0)) from fun h=>Or.inr (by simpa using h))
     generalize L.getD q 0=a at *
     by_cases s:R t xs a<R t xs k
     ·go_wp2
      go_round
      case rel=>exact⟨q,by omega,by go_num,zh ((zu HQ) s)⟩
      case measure=>simp[intOf]
     ·by_cases hc:cO=q+1
      ·have HT':=zh ((zu HT) s)
       obtain rfl:k=q+1:=by omega
       subst hc
       go_wp2_with (at_builtin;refine wpList_append_own _ rfl (.tmp 60) (.tmp 63) 24 rfl w2.heap.size 3 i0 (.int .i64 0) 1 8 Tryz.underlying24 hi hz0 hz1 hz2 rfl (by decide) (.slice (some ⟨w2.heap.size,0,none⟩) 0 0) 0 _ rfl (lit0 w2 _ (Nat.le_refl _)) ⟨gO,0,none⟩ (q+1) (q+1) ((((ints L).drop 0).take (q+1)).map (Value.int .i64)) rfl (by simp[ints_len,lenL]<;>omega) (part_cells (Own.alloc ownO2 _) 0 (q+1) _ (Or.inr rfl) (by omega)) (ints_oneCell _ _) (by unfold maxLen;omega) (by omega) (by simp) ?_)
       intro v3 w3 own3 (gr3:World.grownBy _ w3 (some w2.heap.size)) nil3
       obtain⟨g3,c3,rfl,o3⟩:=own_of_row' (n':=q+1) (xs:=(ints L).take (q+1)) own3 (by omega) (by simp) (by first|exact nil3|(rw[nil3];simp))
       have hs3:=gr3.size
       have o3':=Own.alloc o3 (.cells #[Value.int .i64 ((q+1:Nat):Int)] 3)
       have ownO3:=Own.kept (Own.alloc ownO2 (.cells #[] 3)) gr3 (by simp;omega)
       have ownL3:=Own.kept (Own.alloc ownL2 (.cells #[] 3)) gr3 (by simp;omega)
       have hb3:Below w.heap.size w w3:=(hb2.alloc hs2 _).grown gr3 (by simp;omega) (by simp;omega)
       have lg3:=o3.lt
       rw[World.size_alloc] at hs3
       clear own3 gr3 nil3
       go_wp2_with (at_builtin;refine wpList_append_own _ rfl (.tmp 65) (.tmp 67) 24 rfl w2.heap.size 3 i0 (.int .i64 0) 1 8 Tryz.underlying24 hi hz0 hz1 hz2 rfl (by decide) (.slice (some ⟨g3,0,none⟩) (q+1) c3) (q+1) _ rfl o3' ⟨w3.heap.size,0,none⟩ 1 1 [.int .i64 ((q+1:Nat):Int)] rfl rfl (one_cell w3 _) (one_one _) (by unfold maxLen;omega) (by omega) (by simp;omega) ?_)
       intro v4 w4 own4 (gr4:World.grownBy _ w4 (some g3)) nil4
       obtain⟨g4,c4,rfl,o4⟩:=own_of_row' (n':=q+1+1) (xs:=(ints L).take (q+1)++[((q+1:Nat):Int)]) own4 (by omega) (by simp) (by first|exact nil4|(rw[nil4];simp))
       have hs4:=gr4.size
       have ownO4:=Own.kept (Own.alloc ownO3 (.cells #[Value.int .i64 ((q+1:Nat):Int)] 3)) gr4 (by simp;omega)
       have ownL4:=Own.kept (Own.alloc ownL3 (.cells #[Value.int .i64 ((q+1:Nat):Int)] 3)) gr4 (by simp;omega)
       have hb4:Below w.heap.size w w4:=(hb3.alloc (by omega) _).grown gr4 (by simp;omega) (by simp;omega)
       have lg4:=o4.lt
       rw[World.size_alloc] at hs4
       clear own4 gr4 nil4 o3' o3
       have ord5:=ord.insert (q+1) (by omega) (zu HD) (zu HT')
       have o5:Own w4 w2.heap.size g4 ((q+1)+1) c4 (ints (L.take (q+1)++(q+1)::L.drop (q+1))):=by
        rw[ints_split,List.drop_of_length_le (by rw[ints_len,lenL];omega),List.append_nil]
        exact o4
       have lg5:=o5.lt
       go_wp2_with (at_builtin;refine wpList_append_own _ rfl (.tmp 69) (.tmp 72) 24 rfl w2.heap.size 3 i0 (.int .i64 0) 1 8 Tryz.underlying24 hi hz0 hz1 hz2 rfl (by decide) (.slice (some ⟨g4,0,none⟩) ((q+1)+1) c4) ((q+1)+1) _ rfl o5 ⟨gO,0,none⟩ 0 0 [] rfl rfl (by intro j u hj;simp at hj) (by intro u hu;simp at hu) (by unfold maxLen;omega) (by omega) (by omega) ?_)
       intro v5 w5 own5 (gr5:World.grownBy _ w5 (some g4)) nil5
       obtain⟨g5,c5,rfl,o6⟩:=own_of_row' (n':=(q+1)+1) (xs:=ints (L.take (q+1)++(q+1)::L.drop (q+1))) own5 (by omega) (by simp) (by first|exact nil5|(rw[nil5];simp))
       have hs5:=gr5.size
       have ownL5:=Own.kept ownL4 gr5 (by simp;omega)
       have hb5:Below w.heap.size w w5:=hb4.grown gr5 (by omega) (by simp;omega)
       have lg6:=o6.lt
       clear own5 gr5 nil5 o5 o4 ownO4 ownO3 ownL4 ownL3 ownO2 ownL2
       go_wp2
       go_roundw
       case rel=>exact⟨(q+1)+1,_,g5,c5,gL2,cL2,by omega,by go_num,by go_num,by go_num,by omega,Own.mono o6 (by omega),ownL5,ord5,hb5⟩
       case measure=>simp[intOf];omega
      ·have HT':=zh ((zu HT) s)
       go_wp2_with (at_builtin;refine wpList_append_own _ rfl (.tmp 60) (.tmp 63) 24 rfl w2.heap.size 3 i0 (.int .i64 0) 1 8 Tryz.underlying24 hi hz0 hz1 hz2 rfl (by decide) (.slice (some ⟨w2.heap.size,0,none⟩) 0 0) 0 _ rfl (lit0 w2 _ (Nat.le_refl _)) ⟨gO,0,none⟩ (q+1) cO ((((ints L).drop 0).take (q+1)).map (Value.int .i64)) rfl (by simp[ints_len,lenL]<;>omega) (part_cells (Own.alloc ownO2 _) 0 (q+1) _ (Or.inr rfl) (by omega)) (ints_oneCell _ _) (by unfold maxLen;omega) (by omega) (by simp) ?_)
       intro v3 w3 own3 (gr3:World.grownBy _ w3 (some w2.heap.size)) nil3
       obtain⟨g3,c3,rfl,o3⟩:=own_of_row' (n':=q+1) (xs:=(ints L).take (q+1)) own3 (by omega) (by simp) (by first|exact nil3|(rw[nil3];simp))
       have hs3:=gr3.size
       have o3':=Own.alloc o3 (.cells #[Value.int .i64 (k:Int)] 3)
       have ownO3:=Own.kept (Own.alloc ownO2 (.cells #[] 3)) gr3 (by simp;omega)
       have ownL3:=Own.kept (Own.alloc ownL2 (.cells #[] 3)) gr3 (by simp;omega)
       have hb3:Below w.heap.size w w3:=(hb2.alloc hs2 _).grown gr3 (by simp;omega) (by simp;omega)
       have lg3:=o3.lt
       rw[World.size_alloc] at hs3
       clear own3 gr3 nil3
       go_wp2_with (at_builtin;refine wpList_append_own _ rfl (.tmp 65) (.tmp 67) 24 rfl w2.heap.size 3 i0 (.int .i64 0) 1 8 Tryz.underlying24 hi hz0 hz1 hz2 rfl (by decide) (.slice (some ⟨g3,0,none⟩) (q+1) c3) (q+1) _ rfl o3' ⟨w3.heap.size,0,none⟩ 1 1 [.int .i64 (k:Int)] rfl rfl (one_cell w3 _) (one_one _) (by unfold maxLen;omega) (by omega) (by simp;omega) ?_)
       intro v4 w4 own4 (gr4:World.grownBy _ w4 (some g3)) nil4
       obtain⟨g4,c4,rfl,o4⟩:=own_of_row' (n':=q+1+1) (xs:=(ints L).take (q+1)++[(k:Int)]) own4 (by omega) (by simp) (by first|exact nil4|(rw[nil4];simp))
       have hs4:=gr4.size
       have ownO4:=Own.kept (Own.alloc ownO3 (.cells #[Value.int .i64 (k:Int)] 3)) gr4 (by simp;omega)
       have ownL4:=Own.kept (Own.alloc ownL3 (.cells #[Value.int .i64 (k:Int)] 3)) gr4 (by simp;omega)
       have hb4:Below w.heap.size w w4:=(hb3.alloc (by omega) _).grown gr4 (by simp;omega) (by simp;omega)
       have lg4:=o4.lt
       rw[World.size_alloc] at hs4
       clear own4 gr4 nil4 o3' o3
       go_wp2_with (at_builtin;refine wpList_append_own _ rfl (.tmp 69) (.tmp 72) 24 rfl w2.heap.size 3 i0 (.int .i64 0) 1 8 Tryz.underlying24 hi hz0 hz1 hz2 rfl (by decide) (.slice (some ⟨g4,0,none⟩) (q+1+1) c4) (q+1+1) _ rfl o4 ⟨gO,q+1,none⟩ (k-(q+1)) (cO-(q+1)) ((((ints L).drop (q+1)).take (k-(q+1))).map (Value.int .i64)) rfl (by simp[ints_len,lenL]) (part_cells ownO4 (q+1) (k-(q+1)) _ (Or.inr rfl) (by omega)) (ints_oneCell _ _) (by unfold maxLen;omega) (by omega) (by omega) ?_)
       intro v5 w5 own5 (gr5:World.grownBy _ w5 (some g4)) nil5
       obtain⟨g5,c5,rfl,o5⟩:=own_of_row' (n':=k+1) (xs:=ints (L.take (q+1)++k::L.drop (q+1))) own5 (by omega) (by rw[ints_split];simp[List.take_of_length_le,ints_len,lenL]) (by first|exact nil5|(rw[nil5];simp))
       have hs5:=gr5.size
       have ownL5:=Own.kept ownL4 gr5 (by simp;omega)
       have hb5:Below w.heap.size w w5:=hb4.grown gr5 (by omega) (by simp;omega)
       have lg5:=o5.lt
       have ord5:=ord.insert (q+1) (by omega) (zu HD) (zu HT')
       clear own5 gr5 nil5 o4 ownO4 ownO3 ownL4 ownL3 ownO2 ownL2
       go_wp2
       go_roundw
       case rel=>exact⟨k+1,_,g5,c5,gL2,cL2,by omega,by go_num,rfl,rfl,by omega,Own.mono o5 (by omega),ownL5,ord5,hb5⟩
       case measure=>simp[intOf];omega
  ·obtain rfl:k=n:=by omega
   have HO:=zh ownO
   have HB:=zh hb
   clear ownO ownL hb
   go_wp2
   go_ret
   exact⟨L,gO,cO,ord,rfl,zu HO,zu HB⟩
end SOrder
namespace SShares
open Ints Weigh Quota Order Parts SOrder
theorem sShares_good(w:World)(t:Int)(g n cap:Nat)(xs:List Int)(hl:xs.length=n)(hg:g<w.heap.size)(h:At w g xs)(good:Weigh.Good xs)(ht:Tot t):
  Calls Tryz.prog 89 #[.int .i64 t,.slice (some ⟨g,0,none⟩) n cap] w fun e w'=>∃L,∃M:Nat,∃g' c,IsOrder t xs n L∧t-SQ t xs n=(M:Int)∧M<n∧e= .returned (.tuple #[.slice (some ⟨g',0,none⟩) n c,.bool true])∧Own w' w.heap.size g' n c (bump (wholes t xs n) L M)∧Below w.heap.size w w':=by
 have n40:n≤40:=by have:=good.1.2;omega
 obtain⟨M,hM,hMn⟩:=missing_nat t xs ht good
 rw[hl] at hM hMn
 have HM:=zh hM
 have BD:=zh (fun(k:Nat) (hk:k≤n)=>(show 0≤SQ t xs k∧SQ t xs k≤t from by
  have a1:=SQ_mono t xs ht good 0 k (by omega) (by omega)
  have a2:=SQ_mono t xs ht good k n hk (by omega)
  have a3:SQ t xs 0=0:=rfl
  omega))
 have QB:=zh (fun(k:Nat) (hk:k<n)=>Q_le t xs k ht good (by omega))
 have WB:=zh (fun L m j=>bump_bd (wholes t xs n) L t ht.1 (by rw[←hl];exact wholes_bd t xs ht good) m j)
 have t1:=ht.2
 have t0:=ht.1
 have GT:=zh (And.intro good ht)
 have H:=zh h
 have HG:=zh hg
 obtain⟨i0,hi,hz0,hz1,hz2⟩:=info_parts info3
 clear good ht h hg hM
 go_enter Tryz.func89,Tryz.ntmps89
 go_wp2_with fail
 refine(sWeights _ g n cap xs true hl (by omega) ((zu H).below (Below.alloc (Below.refl _ _) (Nat.le_refl _) _) (zu HG)) (zh ⟨fun _=>(zu GT).1,fun _=>rfl⟩)).mono ?_
 rintro e w1 ⟨rfl,hw1⟩
 go_wp2_with fail
 refine(sSome t 0 true _ (zh ⟨fun _=>(zu GT).2,fun _=>rfl⟩)).mono ?_
 rintro e w2 ⟨rfl,hw2⟩
 subst hw2
 subst hw1
 go_wp2_with fail
 go_loopw [6,7,8] (fun o l i wr=>∃(k:Nat) (gO cO:Nat),k≤n∧i= .int .i64 k∧o= .slice (some ⟨gO,0,none⟩) k cO∧l= .int .i64 (t-SQ t xs k)∧Own wr w.heap.size gO k cO (wholes t xs k)∧Below w.heap.size w wr) (fun _ _ i _=>n-(intOf i).toNat)
 case atStart=>
  refine⟨0,_,_,by omega,rfl,rfl,?_,lit0 w w.heap.size (Nat.le_refl _),(Below.refl _ _).alloc (Nat.le_refl _) _⟩
  simp[SQ]
 case round=>
  obtain⟨k,gO,cO,hk,rfl,rfl,rfl,ownO,hb⟩:=hrel
  by_cases lt:k<n
  ·have c1:=sQuota wr t k (Q t xs k) (R t xs k) true g n cap xs hl (by omega) ((zu H).below hb (zu HG)) (zh (Or.inl ⟨(zu GT).1,(zu GT).2,⟨by omega,by omega⟩,by simp,by simp,rfl⟩))
   obtain⟨q0,q1⟩:=zu QB k lt
   obtain⟨d0,d1⟩:=zu BD k hk
   have E:=zh (show SQ t xs (k+1)=SQ t xs k+Q t xs k from rfl)
   go_wp2_with fail
   refine c1.mono ?_
   rintro e w1 ⟨rfl,m,rfl⟩
   have ownO1:Own (wr.drewN m) w.heap.size gO k cO (wholes t xs k):=ownO
   have hb1:Below w.heap.size w (wr.drewN m):=below_drewN hb m
   clear ownO hb c1
   generalize wr.drewN m=w1 at *
   have hs1:=hb1.size
   have lO:=ownO1.lt
   go_wp2_with (at_builtin;refine wpList_append_own _ rfl (.tmp 39) (.tmp 41) 24 rfl w.heap.size 3 i0 (.int .i64 0) 1 8 Tryz.underlying24 hi hz0 hz1 hz2 rfl (by decide) (.slice (some ⟨gO,0,none⟩) k cO) k _ rfl (SOrder.Own.alloc ownO1 _) ⟨w1.heap.size,0,none⟩ 1 1 [.int .i64 (Q t xs k)] rfl rfl (one_cell w1 _) (one_one _) (by unfold maxLen;omega) (by omega) (by simp;omega) ?_)
   intro v2 w2 own2 (gr2:World.grownBy _ w2 (some gO)) nil2
   obtain⟨g2,c2,rfl,o2⟩:=own_of_row' (n':=k+1) (xs:=wholes t xs (k+1)) own2 (by omega) (by rw[wholes_succ];simp) (by first|exact nil2|(rw[nil2];simp))
   have hb2:Below w.heap.size w w2:=(hb1.alloc hs1 _).grown gr2 (by simp;omega) (by simp;omega)
   have O2:=zh o2
   have B2:=zh hb2
   clear own2 gr2 nil2 ownO1 hb1 o2 hb2
   generalize Q t xs k=q at *
   generalize SQ t xs k=sq at *
   go_wp2
   go_roundw
   case rel=>exact⟨k+1,g2,c2,by omega,by go_num,rfl,by rw[zu E];congr 1;omega,zu O2,zu B2⟩
   case measure=>simp[intOf];omega
  ·obtain rfl:k=n:=by omega
   have hs:=hb.size
   have c1:=sOrder_good wr t g k cap xs hl (Nat.lt_of_lt_of_le (zu HG) hs) ((zu H).below hb (zu HG)) (zu GT).1 (zu GT).2
   rw[zu HM]
   have lO:=ownO.lt
   clear BD QB
   go_wp2_with fail
   refine c1.mono ?_
   rintro e w3 ⟨L,gL,cL,ord,rfl,ownL,b3⟩
   have ownO:=ownO.below b3 ownO.lt.2
   have hb:=next hb b3
   have lL:=ownL.lt
   have hlen:=ord.len
   have ORD:=zh ord
   clear c1 b3 ord
   go_wp2_with fail
   go_loopw [13] (fun i wx=>∃(j:Nat),j≤M∧i= .int .i64 j∧Own wx w.heap.size gO k cO (bump (wholes t xs k) L j)∧Own wx wr.heap.size gL k cL (ints L)∧Below w.heap.size w wx) (fun i _=>M-(intOf i).toNat)
   case atStart=>exact⟨0,by omega,rfl,ownO,ownL,hb⟩
   case round=>
    clear ownO ownL hb
    obtain⟨j,hj,rfl,ownO,ownL,hb⟩:=hrel
    by_cases lt:j<M
    ·have e1:=ownL.at j (by rw[ints_len,hlen];omega)
     rw[ints_getD] at e1
     have ha:=(zu ORD).getD_lt j (by omega)
     have e2:=ownO.at (L.getD j 0) (by rw[ownO.len];exact ha)
     have ff:=ownO.free (L.getD j 0)
     obtain⟨v0,v1⟩:=zu WB L j (L.getD j 0)
     obtain⟨p,q⟩:=ownO.set (L.getD j 0) ((bump (wholes t xs k) L j).getD (L.getD j 0) 0+1)
     have P:Hid (Own _ w.heap.size gO k cO (bump (wholes t xs k) L (j+1))):=p
     have PL:=zh (ownL.kept q (by simp;omega))
     have PB:=zh (hb.setCell (p:=⟨gO,L.getD j 0,none⟩) lO.1 (.int .i64 ((bump (wholes t xs k) L j).getD (L.getD j 0) 0+1)))
     clear p q ownO ownL hb
     generalize (bump (wholes t xs k) L j).getD (L.getD j 0) 0=v at *
     generalize L.getD j 0=a at *
     have i1:(0:Int)≤(a:Int):=by omega
     have i2:(a:Int)<(k:Int):=by omega
     have i3:(0:Int)≤(j:Int):=by omega
     have i4:(j:Int)<(k:Int):=by omega
     go_wp2_with fail
     go_region
     go_wp2
     go_roundw
     case rel=>exact⟨j+1,by omega,by go_num,zu P,zu PL,(zu PB).drew⟩
     case measure=>simp[intOf];omega
    ·obtain rfl:j=M:=by omega
     have O:=zh ownO
     have B:=zh hb
     clear ownO ownL hb
     go_wp2
     go_ret2
     exact⟨L,j,gO,cO,zu ORD,zu HM,hMn,rfl,zu O,zu B⟩
theorem sShares_bad(w:World)(t:Int)(g n cap:Nat)(xs:List Int)(hl:xs.length=n)(h20:n≤1048576)(hg:g<w.heap.size)(h:At w g xs)(bad:¬(Weigh.Good xs∧Tot t)):
  Calls Tryz.prog 89 #[.int .i64 t,.slice (some ⟨g,0,none⟩) n cap] w fun e w'=>e= .returned (.tuple #[.slice (some ⟨w.heap.size,0,none⟩) 0 0,.bool false])∧Own w' w.heap.size w.heap.size 0 0 []∧Below w.heap.size w w':=by
 have H:=zh h
 have HG:=zh hg
 have a1:=zh (lit0 w w.heap.size (Nat.le_refl _))
 have b1:=zh (Below.alloc (Below.refl w.heap.size w) (Nat.le_refl _) (.cells #[] 3))
 by_cases good:Weigh.Good xs
 ·have ht:=zh (show ¬Tot t from fun k=>bad ⟨good,k⟩)
  have GG:=zh good
  clear h hg good bad
  go_enter Tryz.func89,Tryz.ntmps89
  go_wp2_with fail
  refine(sWeights _ g n cap xs true hl h20 ((zu H).below (zu b1) (zu HG)) (zh ⟨fun _=>zu GG,fun _=>rfl⟩)).mono ?_
  rintro e w1 ⟨rfl,hw1⟩
  go_wp2_with fail
  refine(sSome t 0 false _ (zh ⟨fun h=>Bool.noConfusion h,fun h=>absurd h (zu ht)⟩)).mono ?_
  rintro e w2 ⟨rfl,hw2⟩
  subst hw2
  subst hw1
  go_wp2
  go_ret2
  exact⟨rfl,zu a1,zu b1⟩
 ·have GG:=zh good
  clear h hg good bad
  go_enter Tryz.func89,Tryz.ntmps89
  go_wp2_with fail
  refine(sWeights _ g n cap xs false hl h20 ((zu H).below (zu b1) (zu HG)) (zh ⟨fun h=>Bool.noConfusion h,fun h=>absurd h (zu GG)⟩)).mono ?_
  rintro e w1 ⟨rfl,hw1⟩
  subst hw1
  go_wp2
  go_ret2
  exact⟨rfl,zu a1,zu b1⟩
theorem sShares(w:World)(t:Int)(g n cap:Nat)(xs:List Int)(hl:xs.length=n)(h20:n≤1048576)(hg:g<w.heap.size)(h:At w g xs):
  Calls Tryz.prog 89 #[.int .i64 t,.slice (some ⟨g,0,none⟩) n cap] w fun e w'=>∃ps ok g' c,STells t xs ps ok∧e= .returned (.tuple #[.slice (some ⟨g',0,none⟩) ps.length c,.bool ok])∧Own w' w.heap.size g' ps.length c ps∧Below w.heap.size w w':=by
 by_cases good:Weigh.Good xs∧Tot t
 ·refine(sShares_good w t g n cap xs hl hg h good.1 good.2).mono ?_
  rintro e w' ⟨L,M,g',c,ord,hM,hMn,rfl,o,b⟩
  have hn:=o.len
  exact⟨_,true,g',c,Or.inl ⟨good.1,good.2,rfl,L,M,by rw[hl];exact ord,by rw[hl];exact hM,by rw[hl];exact hMn,by rw[hl]⟩,by rw[hn],by rw[hn];exact o,b⟩
 ·refine(sShares_bad w t g n cap xs hl h20 hg h good).mono ?_
  rintro e w' ⟨rfl,o,b⟩
  exact⟨[],false,_,_,Or.inr ⟨good,rfl,rfl⟩,rfl,o,b⟩
end SShares
end Go.Proofs.YtcjgepkdpkhljaaGreat
