/- Lemmas. -/
import Derived.Test.YtcjgepkdpkhljaaGreatQG5
import Derived.WalkSmall
open Go.ChangeShapes Go.WideShapes Go.ChangeAt Go.RowKit
set_option linter.unusedVariables false
set_option linter.unusedSimpArgs false
set_option maxRecDepth 100000
set_option maxHeartbeats 32000000
namespace Go.Proofs.YtcjgepkdpkhljaaGreat
namespace AccountSPut
open Pairs Chart AccountSOk
open AccountHelp (info2)
def many(c k:Nat):Nat:=if c<k then k+1 else k
def done(ps:List (Int×Int))(c:Nat)(p:Int×Int)(k:Nat):List (Int×Int):=(ins ps c p).take (many c k)
theorem take_next(L:List (Int×Int))(m:Nat)(p:Int×Int)(hm:m<L.length)(e:el L m=p):L.take (m+1)=L.take m++[p]:=by
 rw[List.take_add_one,←e]
 simp[el,List.getD,hm]
theorem done_ahead(ps:List (Int×Int))(c:Nat)(p:Int×Int)(k:Nat)(hc:c≤ps.length)(hk:k<c):done ps c p (k+1)=done ps c p k++[el ps k]:=by
 unfold done many
 rw[if_neg (by omega),if_neg (by omega)]
 exact take_next _ _ _ (by rw[ins_len _ _ _ hc];omega) (by rw[ins_el _ _ _ hc,if_pos hk])
theorem done_at(ps:List (Int×Int))(c:Nat)(p:Int×Int)(hc:c<ps.length):done ps c p (c+1)=done ps c p c++[p]++[el ps c]:=by
 unfold done many
 rw[if_pos (by omega),if_neg (by omega)]
 rw[take_next (ins ps c p) (c+1) (el ps c) (by rw[ins_len _ _ _ (by omega)];omega) (by rw[ins_el _ _ _ (by omega),if_neg (by omega),if_neg (by omega)];rfl)]
 rw[take_next (ins ps c p) c p (by rw[ins_len _ _ _ (by omega)];omega) (by rw[ins_el _ _ _ (by omega),if_neg (by omega),if_pos rfl])]
theorem done_behind(ps:List (Int×Int))(c:Nat)(p:Int×Int)(k:Nat)(hc:c≤ps.length)(h1:c<k)(hk:k<ps.length):done ps c p (k+1)=done ps c p k++[el ps k]:=by
 unfold done many
 rw[if_pos (by omega),if_pos (by omega)]
 exact take_next _ _ _ (by rw[ins_len _ _ _ hc];omega) (by rw[ins_el _ _ _ hc,if_neg (by omega),if_neg (by omega)];rfl)
theorem done_all(ps:List (Int×Int))(c:Nat)(p:Int×Int)(hc:c<ps.length):done ps c p ps.length=ins ps c p:=by
 unfold done many
 rw[if_pos hc]
 exact List.take_of_length_le (by rw[ins_len _ _ _ (by omega)];exact Nat.le_refl _)
theorem done_last(ps:List (Int×Int))(p:Int×Int):done ps ps.length p ps.length++[p]=ins ps ps.length p:=by
 unfold done many ins
 rw[if_neg (by omega)]
 simp
theorem sameOld{w a b:World}(h:Below w.heap.size w a)(k:Below w.heap.size w b){p:Addr}(hp:p.block<w.heap.size):b.cell? p=a.cell? p:=(k.cell (p:=p) hp).trans (h.cell (p:=p) hp).symm
theorem sPut(w:World)(g n cap:Nat)(ps:List (Int×Int))(x y:Int)(hl:ps.length=n)(h20:n≤1048576)(hg:g<w.heap.size)(h:At w g ps):
  Calls Tryz.prog 75 #[.slice (some ⟨g,0,none⟩) n cap,.agg #[.int .i64 x,.int .i64 y]] w fun e w'=>∃qs ok g' c',IsPut 20 4 ps (x,y) qs ok∧
   e= .returned (.tuple #[.slice (some ⟨g',0,none⟩) qs.length c',.bool ok])∧Own 112 w' w.heap.size g' qs.length c' qs∧Below w.heap.size w w':=by
 obtain⟨ok,OK⟩:=says_of 20 4 ps
 obtain⟨i0,hi,hz0,hz1,hz2⟩:=info_parts info2
 have b0:Below w.heap.size w (w.alloc (.cells #[.int .i64 x,.int .i64 y] 112)):=(Below.refl _ _).alloc (Nat.le_refl _) _
 have oA:=lit1 112 w w.heap.size x y (Nat.le_refl _)
 have H0:=zh (h.below b0 hg)
 have HB0:=zh b0
 have s1:(w.alloc (.cells #[.int .i64 x,.int .i64 y] 112)).heap.size=w.heap.size+1:=World.size_alloc ..
 clear b0
 have H:=zh h
 clear h
 cases ok
 ·go_enter Tryz.func75,Tryz.ntmps75
  go_wp2_with fail
  refine(sOk _ _ _ _ ps false hl h20 (zu H0) OK).mono ?_
  rintro e w2 ⟨rfl,nq,rfl⟩
  go_wp2
  go_ret2
  refine⟨[],false,w.heap.size+1,0,.inl ⟨OK.no,rfl,rfl⟩,rfl,?_,(below_drewN (zu HB0) nq).alloc (by simp) _⟩
  have:=lit0 112 ((w.alloc (.cells #[.int .i64 x,.int .i64 y] 112)).drewN nq) w.heap.size (by simp)
  simpa using this
 ·obtain⟨c,hc⟩:=place_is ps x
  go_enter Tryz.func75,Tryz.ntmps75
  go_wp2_with fail
  refine(sOk _ _ _ _ ps true hl h20 (zu H0) OK).mono ?_
  rintro e w2 ⟨rfl,nq,rfl⟩
  have oA2:Own 112 ((w.alloc (.cells #[.int .i64 x,.int .i64 y] 112)).drewN nq) w.heap.size w.heap.size 1 1 [(x,y)]:=oA
  have oO:Own 112 (((w.alloc (.cells #[.int .i64 x,.int .i64 y] 112)).drewN nq).alloc (.cells #[] 112)) (w.heap.size+1) (w.heap.size+1) 0 0 []:=by
   have:=lit0 112 ((w.alloc (.cells #[.int .i64 x,.int .i64 y] 112)).drewN nq) (w.heap.size+1) (by simp)
   simpa using this
  have oA3:=oA2.alloc (.cells #[] 112)
  have HB1:=zh ((below_drewN (zu HB0) nq).alloc (B:=w.heap.size) (by simp) (.cells #[] 112))
  have n20:n≤20:=by have:=OK.yes.1;omega
  have c0:c≤n:=by have:=hc.1;omega
  clear oA oA2 H0 HB0 s1
  have PC:=zh hc
  clear hc
  go_wp2
  generalize ((w.alloc (.cells #[.int .i64 x,.int .i64 y] 112)).drewN nq).alloc (.cells #[] 112)=wS at *
  go_loopw [6,7,8] (fun o put i wr=>∃(k m gO cO:Nat) (ds:List (Int×Int)),k≤n∧i= .int .i64 k∧put= .bool (decide (c<k))∧o= .slice (some ⟨gO,0,none⟩) m cO∧Hid (ds=done ps c (x,y) k∧m=many c k)∧
    m≤21∧Own 112 wr (w.heap.size+1) gO m cO ds∧Own 112 wr w.heap.size w.heap.size 1 1 [(x,y)]∧Below w.heap.size w wr) (fun _ _ i _=>n-(intOf i).toNat)
  case atStart=>
   refine⟨0,0,_,_,[],by omega,rfl,?_,rfl,zh ⟨?_,?_⟩,by omega,oO,oA3,zu HB1⟩
   ·simp
   ·simp[done,many]
   ·simp[many]
  case round=>
   clear oO oA3 HB1
   obtain⟨k,m,gO,cO,ds,hk,rfl,rfl,rfl,HD,m21,own,oA,hb⟩:=hrel
   by_cases t:k<n
   ·obtain⟨e1,e2⟩:=(zu H).below hb hg k (by omega)
    obtain⟨a1,a2⟩:=oA.at 0 (by simp)
    have HO:=zh own
    have HA:=zh oA
    have HB:=zh hb
    have es:=hb.size
    have gne:=own.lt.1
    have als:=oA.lt.2
    clear own oA hb
    rcases Nat.lt_trichotomy k c with l|l|l
    ·have lt:(el ps k).1<x:=(zu PC).2.1 k l
     have gd:decide (x≤(el ps k).1)=false:=decide_eq_false (by omega)
     have nk:decide (c<k)=false:=by simp;omega
     have nk2:decide (c<k+1)=false:=by simp;omega
     have ED:=zh (done_ahead ps c (x,y) k (by omega) l)
     have EM:=zh (show many c (k+1)=many c k+1 by unfold many;rw[if_neg (by omega),if_neg (by omega)])
     have ED:Hid (done ps c (x,y) (k+1)=done ps c (x,y) k++[((el ps k).1,(el ps k).2)]):=ED
     have mk:Hid (m≤20):=zh (by have:=(zu HD).2;unfold many at this;rw[if_neg (by omega)] at this;omega)
     have m20:m≤20:=zu mk
     generalize (el ps k).1=p1 at *
     generalize (el ps k).2=p2 at *
     rw[nk]
     go_wp2
     go_quiet (fail)
     generalize hw1:wr.drewN nq=w1
     have o1:Own 112 w1 (w.heap.size+1) gO m cO ds:=by rw[←hw1];exact zu HO
     have a1:Own 112 w1 w.heap.size w.heap.size 1 1 [(x,y)]:=by rw[←hw1];exact zu HA
     have b1:Below w.heap.size w w1:=by rw[←hw1];exact below_drewN (zu HB) nq
     have f1:w1.cell? ⟨g,k*2,none⟩=some (.int .i64 p1):=by rw[←hw1];exact e1
     have f2:w1.cell? ⟨g,k*2+1,none⟩=some (.int .i64 p2):=by rw[←hw1];exact e2
     obtain⟨d1,d2⟩:=a1.at 0 (by simp)
     have d1:w1.cell? ⟨w.heap.size,0,none⟩=some (.int .i64 x):=d1
     have d2:w1.cell? ⟨w.heap.size,1,none⟩=some (.int .i64 y):=d2
     have es1:=b1.size
     have as1:=a1.lt.2
     clear hw1 e1 e2 HO HA HB es
     go_wp2_with (at_builtin;refine wpList_append_own _ rfl (.tmp 36) (.tmp 41) 38 rfl (w.heap.size+1) 112 i0 (.agg #[.int .i64 0,.int .i64 0]) 2 16 Tryz.underlying38 hi hz0 hz1 hz2 rfl (by decide) (.slice (some ⟨gO,0,none⟩) m cO) m _ rfl (o1.alloc _) ⟨w1.heap.size,0,none⟩ 1 1 [.int .i64 p1,.int .i64 p2] rfl rfl (lit1 _ w1 0 _ _ (Nat.zero_le _)).at.cells (fun u hu=>flat_one u [(p1,p2)] hu) (by unfold maxLen;omega) (by omega) (by simp;omega) ?_)
     intro v2 w2 own2 (gr2:World.grownBy _ w2 (some gO)) nil2
     obtain⟨g2,c2,rfl,o2⟩:=own_of_row (n':=m+1) (ps:=ds++[(p1,p2)]) own2 (by omega) (by rw[flat_append];rfl) (by first|exact nil2|(rw[nil2];simp))
     have a2:=(a1.alloc (.cells #[.int .i64 p1,.int .i64 p2] 112)).kept gr2 (by simp;omega)
     have b2:Below w.heap.size w w2:=(b1.alloc es1 _).grown gr2 (by simp;omega) (by simp;omega)
     have es2:=b2.size
     have as2:=a2.lt.2
     have gn2:=o2.lt.1
     clear own2 gr2 nil2 o1 a1 b1 d1 d2 f1 f2
     go_wp2
     go_roundw
     case rel=>exact⟨k+1,m+1,g2,c2,_,by omega,by go_num,by rw[nk2],rfl,zh ⟨by rw[zu ED,(zu HD).1],by rw[zu EM,(zu HD).2]⟩,by omega,o2,a2,b2⟩
     case measure=>simp[intOf];omega
    ·have ge:x≤(el ps k).1:=(by subst l;exact(zu PC).2.2 (by omega))
     have gd:decide (x≤(el ps k).1)=true:=decide_eq_true ge
     have nk:decide (c<k)=false:=by simp;omega
     have nk2:decide (c<k+1)=true:=by simp;omega
     have ED:Hid (done ps c (x,y) (k+1)=done ps c (x,y) k++[(x,y)]++[((el ps k).1,(el ps k).2)]):=zh (by subst l;exact done_at ps k (x,y) (by omega))
     have EM:=zh (show many c (k+1)=many c k+2 by unfold many;rw[if_pos (by omega),if_neg (by omega)])
     have mk:Hid (m+1≤20):=zh (by have:=(zu HD).2;unfold many at this;rw[if_neg (by omega)] at this;omega)
     have mm:m+1≤20:=zu mk
     clear l
     generalize (el ps k).1=p1 at *
     generalize (el ps k).2=p2 at *
     rw[nk]
     go_wp2
     go_quiet (fail)
     generalize hw1:wr.drewN nq=w1
     have o1:Own 112 w1 (w.heap.size+1) gO m cO ds:=by rw[←hw1];exact zu HO
     have a1:Own 112 w1 w.heap.size w.heap.size 1 1 [(x,y)]:=by rw[←hw1];exact zu HA
     have b1:Below w.heap.size w w1:=by rw[←hw1];exact below_drewN (zu HB) nq
     have f1:w1.cell? ⟨g,k*2,none⟩=some (.int .i64 p1):=by rw[←hw1];exact e1
     have f2:w1.cell? ⟨g,k*2+1,none⟩=some (.int .i64 p2):=by rw[←hw1];exact e2
     obtain⟨d1,d2⟩:=a1.at 0 (by simp)
     have d1:w1.cell? ⟨w.heap.size,0,none⟩=some (.int .i64 x):=d1
     have d2:w1.cell? ⟨w.heap.size,1,none⟩=some (.int .i64 y):=d2
     have es1:=b1.size
     have as1:=a1.lt.2
     clear hw1 e1 e2 HO HA HB es
     go_wp2_with (at_builtin;refine wpList_append_own _ rfl (.tmp 32) (.tmp 34) 38 rfl (w.heap.size+1) 112 i0 (.agg #[.int .i64 0,.int .i64 0]) 2 16 Tryz.underlying38 hi hz0 hz1 hz2 rfl (by decide) (.slice (some ⟨gO,0,none⟩) m cO) m _ rfl (o1.alloc _) ⟨w1.heap.size,0,none⟩ 1 1 [.int .i64 x,.int .i64 y] rfl rfl (lit1 _ w1 0 _ _ (Nat.zero_le _)).at.cells (fun u hu=>flat_one u [(x,y)] hu) (by unfold maxLen;omega) (by omega) (by simp;omega) ?_)
     intro v2 w2 own2 (gr2:World.grownBy _ w2 (some gO)) nil2
     obtain⟨g2,c2,rfl,o2⟩:=own_of_row (n':=m+1) (ps:=ds++[(x,y)]) own2 (by omega) (by rw[flat_append];rfl) (by first|exact nil2|(rw[nil2];simp))
     have a2:=(a1.alloc (.cells #[.int .i64 x,.int .i64 y] 112)).kept gr2 (by simp;omega)
     have b2:Below w.heap.size w w2:=(b1.alloc es1 _).grown gr2 (by simp;omega) (by simp;omega)
     have es2:=b2.size
     have as2:=a2.lt.2
     have gn2:=o2.lt.1
     have h1:w2.cell? ⟨g,k*2,none⟩=some (.int .i64 p1):=(sameOld b1 b2 (p:=⟨g,k*2,none⟩) hg).trans f1
     have h2:w2.cell? ⟨g,k*2+1,none⟩=some (.int .i64 p2):=(sameOld b1 b2 (p:=⟨g,k*2+1,none⟩) hg).trans f2
     clear own2 gr2 nil2 o1 a1 b1 d1 d2 f1 f2
     go_wp2_with (at_builtin;refine wpList_append_own _ rfl (.tmp 36) (.tmp 41) 38 rfl (w.heap.size+1) 112 i0 (.agg #[.int .i64 0,.int .i64 0]) 2 16 Tryz.underlying38 hi hz0 hz1 hz2 rfl (by decide) (.slice (some ⟨g2,0,none⟩) (m+1) c2) (m+1) _ rfl (o2.alloc _) ⟨w2.heap.size,0,none⟩ 1 1 [.int .i64 p1,.int .i64 p2] rfl rfl (lit1 _ w2 0 _ _ (Nat.zero_le _)).at.cells (fun u hu=>flat_one u [(p1,p2)] hu) (by unfold maxLen;omega) (by omega) (by simp;omega) ?_)
     intro v3 w3 own3 (gr3:World.grownBy _ w3 (some g2)) nil3
     obtain⟨g3,c3,rfl,o3⟩:=own_of_row (n':=m+2) (ps:=ds++[(x,y)]++[(p1,p2)]) own3 (by omega) (flat_append (ds++[(x,y)]) [(p1,p2)]).symm (by first|exact nil3|(rw[nil3];simp))
     have a3:=(a2.alloc (.cells #[.int .i64 p1,.int .i64 p2] 112)).kept gr3 (by simp;omega)
     have b3:Below w.heap.size w w3:=(b2.alloc es2 _).grown gr3 (by simp;omega) (by simp;omega)
     have es3:=b3.size
     have as3:=a3.lt.2
     have gn3:=o3.lt.1
     clear own3 gr3 nil3 o2 a2 b2 h1 h2
     go_wp2
     go_roundw
     case rel=>exact⟨k+1,m+2,g3,c3,_,by omega,by go_num,by rw[nk2],rfl,zh ⟨by rw[zu ED,(zu HD).1],by rw[zu EM,(zu HD).2]⟩,by omega,o3,a3,b3⟩
     case measure=>simp[intOf];omega
    ·have nk:decide (c<k)=true:=by simp;omega
     have nk2:decide (c<k+1)=true:=by simp;omega
     have ED:Hid (done ps c (x,y) (k+1)=done ps c (x,y) k++[((el ps k).1,(el ps k).2)]):=zh (done_behind ps c (x,y) k (by omega) l (by omega))
     have EM:=zh (show many c (k+1)=many c k+1 by unfold many;rw[if_pos (by omega),if_pos (by omega)])
     have mk:Hid (m≤20):=zh (by have:=(zu HD).2;unfold many at this;rw[if_pos (by omega)] at this;omega)
     have mm:=zu mk
     generalize (el ps k).1=p1 at *
     generalize (el ps k).2=p2 at *
     rw[nk]
     go_wp2
     go_quiet (fail)
     generalize hw1:wr.drewN nq=w1
     have o1:Own 112 w1 (w.heap.size+1) gO m cO ds:=by rw[←hw1];exact zu HO
     have a1:Own 112 w1 w.heap.size w.heap.size 1 1 [(x,y)]:=by rw[←hw1];exact zu HA
     have b1:Below w.heap.size w w1:=by rw[←hw1];exact below_drewN (zu HB) nq
     have f1:w1.cell? ⟨g,k*2,none⟩=some (.int .i64 p1):=by rw[←hw1];exact e1
     have f2:w1.cell? ⟨g,k*2+1,none⟩=some (.int .i64 p2):=by rw[←hw1];exact e2
     obtain⟨d1,d2⟩:=a1.at 0 (by simp)
     have d1:w1.cell? ⟨w.heap.size,0,none⟩=some (.int .i64 x):=d1
     have d2:w1.cell? ⟨w.heap.size,1,none⟩=some (.int .i64 y):=d2
     have es1:=b1.size
     have as1:=a1.lt.2
     clear hw1 e1 e2 HO HA HB es
     go_wp2_with (at_builtin;refine wpList_append_own _ rfl (.tmp 36) (.tmp 41) 38 rfl (w.heap.size+1) 112 i0 (.agg #[.int .i64 0,.int .i64 0]) 2 16 Tryz.underlying38 hi hz0 hz1 hz2 rfl (by decide) (.slice (some ⟨gO,0,none⟩) m cO) m _ rfl (o1.alloc _) ⟨w1.heap.size,0,none⟩ 1 1 [.int .i64 p1,.int .i64 p2] rfl rfl (lit1 _ w1 0 _ _ (Nat.zero_le _)).at.cells (fun u hu=>flat_one u [(p1,p2)] hu) (by unfold maxLen;omega) (by omega) (by simp;omega) ?_)
     intro v2 w2 own2 (gr2:World.grownBy _ w2 (some gO)) nil2
     obtain⟨g2,c2,rfl,o2⟩:=own_of_row (n':=m+1) (ps:=ds++[(p1,p2)]) own2 (by omega) (by rw[flat_append];rfl) (by first|exact nil2|(rw[nil2];simp))
     have a2:=(a1.alloc (.cells #[.int .i64 p1,.int .i64 p2] 112)).kept gr2 (by simp;omega)
     have b2:Below w.heap.size w w2:=(b1.alloc es1 _).grown gr2 (by simp;omega) (by simp;omega)
     have es2:=b2.size
     have as2:=a2.lt.2
     have gn2:=o2.lt.1
     clear own2 gr2 nil2 o1 a1 b1 d1 d2 f1 f2
     go_wp2
     go_roundw
     case rel=>exact⟨k+1,m+1,g2,c2,_,by omega,by go_num,by rw[nk2],rfl,zh ⟨by rw[zu ED,(zu HD).1],by rw[zu EM,(zu HD).2]⟩,by omega,o2,a2,b2⟩
     case measure=>simp[intOf];omega
   ·obtain rfl:k=n:=by omega
    by_cases cn:c<k
    ·have nk:decide (c<k)=true:=by simp;omega
     obtain⟨rfl,rfl⟩:=zu HD
     have own:Own 112 wr (w.heap.size+1) gO (k+1) cO (ins ps c (x,y)):=by
      have e:many c k=k+1:=by unfold many;rw[if_pos cn]
      have e2:=done_all ps c (x,y) (by omega)
      rw[hl] at e2
      rw[e,e2] at own
      exact own
     have em:Hid (many c k=k+1):=by unfold Hid many;rw[if_pos cn]
     rw[zu em,nk]
     clear em nk HD
     obtain⟨ok2,OK2⟩:=says_of 20 4 (ins ps c (x,y))
     have li:(ins ps c (x,y)).length=k+1:=by rw[ins_len _ _ _ (by omega)];omega
     have es:=hb.size
     cases ok2
     ·go_wp2_with fail
      refine(sOk _ gO (k+1) cO (ins ps c (x,y)) false li (by omega) own.at OK2).mono ?_
      rintro e w7 ⟨rfl,nq2,rfl⟩
      have bq:=below_drewN hb nq2
      generalize wr.drewN nq2=w8 at *
      have es8:=bq.size
      clear own hb
      go_wp2_with (at_builtin;refine wpList_append_own _ rfl (.tmp 52) (.tmp 53) 38 rfl w.heap.size 112 i0 (.agg #[.int .i64 0,.int .i64 0]) 2 16 Tryz.underlying38 hi hz0 hz1 hz2 rfl (by decide) (.slice (some ⟨w8.heap.size,0,none⟩) 0 0) 0 _ rfl (lit0 _ w8 w.heap.size bq.size) ⟨g,0,none⟩ k cap (flat ps) rfl (by rw[flat_len,hl]) ((zu H).below (bq.alloc (o:= .cells #[] 112) bq.size) hg).cells (fun u hu=>flat_one u ps hu) (by unfold maxLen;omega) (by omega) (by simp;omega) ?_)
      intro v9 w9 own9 (gr9:World.grownBy _ w9 (some w8.heap.size)) nil9
      obtain⟨g9,c9,rfl,o9⟩:=own_of_row (n':=k) (ps:=ps) own9 (by omega) (by rw[flat_nil,List.nil_append]) (by first|exact nil9|(rw[nil9];simp))
      have b9:Below w.heap.size w w9:=(bq.alloc bq.size _).grown gr9 (by simp;omega) (by simp;omega)
      clear own9 gr9 nil9
      go_wp2
      go_ret2
      exact⟨ps,false,g9,c9,.inr ⟨OK.yes,c,zu PC,.inl ⟨OK2.no,rfl,rfl⟩⟩,by rw[hl];rfl,by rw[hl];exact o9,b9⟩
     ·go_wp2_with fail
      refine(sOk _ gO (k+1) cO (ins ps c (x,y)) true li (by omega) own.at OK2).mono ?_
      rintro e w7 ⟨rfl,nq2,rfl⟩
      have bq:=below_drewN hb nq2
      have oq:Own 112 (wr.drewN nq2) (w.heap.size+1) gO (k+1) cO (ins ps c (x,y)):=own
      generalize wr.drewN nq2=w8 at *
      clear own hb
      go_wp2
      go_ret2
      exact⟨ins ps c (x,y),true,gO,cO,.inr ⟨OK.yes,c,zu PC,.inr ⟨OK2.yes,rfl,rfl⟩⟩,by rw[li];rfl,by rw[li];exact oq.rebase (by have:=oq.lt.1;omega),bq⟩
    ·obtain rfl:c=k:=by omega
     have nk:decide (c<c)=false:=by simp
     obtain⟨rfl,rfl⟩:=zu HD
     have em:Hid (many c c=c):=by unfold Hid many;rw[if_neg (by omega)]
     rw[zu em] at own
     rw[zu em,nk]
     obtain⟨d1,d2⟩:=oA.at 0 (by simp)
     have d1:wr.cell? ⟨w.heap.size,0,none⟩=some (.int .i64 x):=d1
     have d2:wr.cell? ⟨w.heap.size,1,none⟩=some (.int .i64 y):=d2
     have es:=hb.size
     have asw:=oA.lt.2
     have gne:=own.lt.1
     clear em nk HD m21
     go_wp2_with (at_builtin;refine wpList_append_own _ rfl (.tmp 45) (.tmp 47) 38 rfl (w.heap.size+1) 112 i0 (.agg #[.int .i64 0,.int .i64 0]) 2 16 Tryz.underlying38 hi hz0 hz1 hz2 rfl (by decide) (.slice (some ⟨gO,0,none⟩) c cO) c _ rfl (own.alloc _) ⟨wr.heap.size,0,none⟩ 1 1 [.int .i64 x,.int .i64 y] rfl rfl (lit1 _ wr 0 _ _ (Nat.zero_le _)).at.cells (fun u hu=>flat_one u [(x,y)] hu) (by unfold maxLen;omega) (by omega) (by simp;omega) ?_)
     intro v2 w2 own2 (gr2:World.grownBy _ w2 (some gO)) nil2
     obtain⟨g2,c2,rfl,o2⟩:=own_of_row (n':=c+1) (ps:=ins ps c (x,y)) own2 (by omega) (by have:=done_last ps (x,y);rw[hl] at this;rw[←this,flat_append];rfl) (by first|exact nil2|(rw[nil2];simp))
     have b2:Below w.heap.size w w2:=(hb.alloc es _).grown gr2 (by simp;omega) (by simp;omega)
     clear own2 gr2 nil2 own oA hb d1 d2 es
     obtain⟨ok2,OK2⟩:=says_of 20 4 (ins ps c (x,y))
     have li:(ins ps c (x,y)).length=c+1:=by rw[ins_len _ _ _ (by omega)];omega
     have es:=b2.size
     cases ok2
     ·go_wp2_with fail
      refine(sOk _ g2 (c+1) c2 (ins ps c (x,y)) false li (by omega) o2.at OK2).mono ?_
      rintro e w7 ⟨rfl,nq2,rfl⟩
      have bq:=below_drewN b2 nq2
      generalize w2.drewN nq2=w8 at *
      have es8:=bq.size
      clear o2 b2
      go_wp2_with (at_builtin;refine wpList_append_own _ rfl (.tmp 52) (.tmp 53) 38 rfl w.heap.size 112 i0 (.agg #[.int .i64 0,.int .i64 0]) 2 16 Tryz.underlying38 hi hz0 hz1 hz2 rfl (by decide) (.slice (some ⟨w8.heap.size,0,none⟩) 0 0) 0 _ rfl (lit0 _ w8 w.heap.size bq.size) ⟨g,0,none⟩ c cap (flat ps) rfl (by rw[flat_len,hl]) ((zu H).below (bq.alloc (o:= .cells #[] 112) bq.size) hg).cells (fun u hu=>flat_one u ps hu) (by unfold maxLen;omega) (by omega) (by simp;omega) ?_)
      intro v9 w9 own9 (gr9:World.grownBy _ w9 (some w8.heap.size)) nil9
      obtain⟨g9,c9,rfl,o9⟩:=own_of_row (n':=c) (ps:=ps) own9 (by omega) (by rw[flat_nil,List.nil_append]) (by first|exact nil9|(rw[nil9];simp))
      have b9:Below w.heap.size w w9:=(bq.alloc bq.size _).grown gr9 (by simp;omega) (by simp;omega)
      clear own9 gr9 nil9
      go_wp2
      go_ret2
      exact⟨ps,false,g9,c9,.inr ⟨OK.yes,c,zu PC,.inl ⟨OK2.no,rfl,rfl⟩⟩,by rw[hl];rfl,by rw[hl];exact o9,b9⟩
     ·go_wp2_with fail
      refine(sOk _ g2 (c+1) c2 (ins ps c (x,y)) true li (by omega) o2.at OK2).mono ?_
      rintro e w7 ⟨rfl,nq2,rfl⟩
      have bq:=below_drewN b2 nq2
      have oq:Own 112 (w2.drewN nq2) (w.heap.size+1) g2 (c+1) c2 (ins ps c (x,y)):=o2
      generalize w2.drewN nq2=w8 at *
      clear o2 b2
      go_wp2
      go_ret2
      exact⟨ins ps c (x,y),true,g2,c2,.inr ⟨OK.yes,c,zu PC,.inr ⟨OK2.yes,rfl,rfl⟩⟩,by rw[li];rfl,by rw[li];exact oq.rebase (by have:=oq.lt.1;omega),bq⟩
end AccountSPut
namespace InstrSPut
open Pairs Chart InstrSOk
open InstrHelp (info2)
def many(c k:Nat):Nat:=if c<k then k+1 else k
def done(ps:List (Int×Int))(c:Nat)(p:Int×Int)(k:Nat):List (Int×Int):=(ins ps c p).take (many c k)
theorem take_next(L:List (Int×Int))(m:Nat)(p:Int×Int)(hm:m<L.length)(e:el L m=p):L.take (m+1)=L.take m++[p]:=by
 rw[List.take_add_one,←e]
 simp[el,List.getD,hm]
theorem done_ahead(ps:List (Int×Int))(c:Nat)(p:Int×Int)(k:Nat)(hc:c≤ps.length)(hk:k<c):done ps c p (k+1)=done ps c p k++[el ps k]:=by
 unfold done many
 rw[if_neg (by omega),if_neg (by omega)]
 exact take_next _ _ _ (by rw[ins_len _ _ _ hc];omega) (by rw[ins_el _ _ _ hc,if_pos hk])
theorem done_at(ps:List (Int×Int))(c:Nat)(p:Int×Int)(hc:c<ps.length):done ps c p (c+1)=done ps c p c++[p]++[el ps c]:=by
 unfold done many
 rw[if_pos (by omega),if_neg (by omega)]
 rw[take_next (ins ps c p) (c+1) (el ps c) (by rw[ins_len _ _ _ (by omega)];omega) (by rw[ins_el _ _ _ (by omega),if_neg (by omega),if_neg (by omega)];rfl)]
 rw[take_next (ins ps c p) c p (by rw[ins_len _ _ _ (by omega)];omega) (by rw[ins_el _ _ _ (by omega),if_neg (by omega),if_pos rfl])]
theorem done_behind(ps:List (Int×Int))(c:Nat)(p:Int×Int)(k:Nat)(hc:c≤ps.length)(h1:c<k)(hk:k<ps.length):done ps c p (k+1)=done ps c p k++[el ps k]:=by
 unfold done many
 rw[if_pos (by omega),if_pos (by omega)]
 exact take_next _ _ _ (by rw[ins_len _ _ _ hc];omega) (by rw[ins_el _ _ _ hc,if_neg (by omega),if_neg (by omega)];rfl)
theorem done_all(ps:List (Int×Int))(c:Nat)(p:Int×Int)(hc:c<ps.length):done ps c p ps.length=ins ps c p:=by
 unfold done many
 rw[if_pos hc]
 exact List.take_of_length_le (by rw[ins_len _ _ _ (by omega)];exact Nat.le_refl _)
theorem done_last(ps:List (Int×Int))(p:Int×Int):done ps ps.length p ps.length++[p]=ins ps ps.length p:=by
 unfold done many ins
 rw[if_neg (by omega)]
 simp
theorem sameOld{w a b:World}(h:Below w.heap.size w a)(k:Below w.heap.size w b){p:Addr}(hp:p.block<w.heap.size):b.cell? p=a.cell? p:=(k.cell (p:=p) hp).trans (h.cell (p:=p) hp).symm
theorem sPut(w:World)(g n cap:Nat)(ps:List (Int×Int))(x y:Int)(hl:ps.length=n)(h20:n≤1048576)(hg:g<w.heap.size)(h:At w g ps):
  Calls Tryz.prog 76 #[.slice (some ⟨g,0,none⟩) n cap,.agg #[.int .i64 x,.int .i64 y]] w fun e w'=>∃qs ok g' c',IsPut 8 2 ps (x,y) qs ok∧
   e= .returned (.tuple #[.slice (some ⟨g',0,none⟩) qs.length c',.bool ok])∧Own 113 w' w.heap.size g' qs.length c' qs∧Below w.heap.size w w':=by
 obtain⟨ok,OK⟩:=says_of 8 2 ps
 obtain⟨i0,hi,hz0,hz1,hz2⟩:=info_parts info2
 have b0:Below w.heap.size w (w.alloc (.cells #[.int .i64 x,.int .i64 y] 113)):=(Below.refl _ _).alloc (Nat.le_refl _) _
 have oA:=lit1 113 w w.heap.size x y (Nat.le_refl _)
 have H0:=zh (h.below b0 hg)
 have HB0:=zh b0
 have s1:(w.alloc (.cells #[.int .i64 x,.int .i64 y] 113)).heap.size=w.heap.size+1:=World.size_alloc ..
 clear b0
 have H:=zh h
 clear h
 cases ok
 ·go_enter Tryz.func76,Tryz.ntmps76
  go_wp2_with fail
  refine(sOk _ _ _ _ ps false hl h20 (zu H0) OK).mono ?_
  rintro e w2 ⟨rfl,nq,rfl⟩
  go_wp2
  go_ret2
  refine⟨[],false,w.heap.size+1,0,.inl ⟨OK.no,rfl,rfl⟩,rfl,?_,(below_drewN (zu HB0) nq).alloc (by simp) _⟩
  have:=lit0 113 ((w.alloc (.cells #[.int .i64 x,.int .i64 y] 113)).drewN nq) w.heap.size (by simp)
  simpa using this
 ·obtain⟨c,hc⟩:=place_is ps x
  go_enter Tryz.func76,Tryz.ntmps76
  go_wp2_with fail
  refine(sOk _ _ _ _ ps true hl h20 (zu H0) OK).mono ?_
  rintro e w2 ⟨rfl,nq,rfl⟩
  have oA2:Own 113 ((w.alloc (.cells #[.int .i64 x,.int .i64 y] 113)).drewN nq) w.heap.size w.heap.size 1 1 [(x,y)]:=oA
  have oO:Own 113 (((w.alloc (.cells #[.int .i64 x,.int .i64 y] 113)).drewN nq).alloc (.cells #[] 113)) (w.heap.size+1) (w.heap.size+1) 0 0 []:=by
   have:=lit0 113 ((w.alloc (.cells #[.int .i64 x,.int .i64 y] 113)).drewN nq) (w.heap.size+1) (by simp)
   simpa using this
  have oA3:=oA2.alloc (.cells #[] 113)
  have HB1:=zh ((below_drewN (zu HB0) nq).alloc (B:=w.heap.size) (by simp) (.cells #[] 113))
  have n20:n≤8:=by have:=OK.yes.1;omega
  have c0:c≤n:=by have:=hc.1;omega
  clear oA oA2 H0 HB0 s1
  have PC:=zh hc
  clear hc
  go_wp2
  generalize ((w.alloc (.cells #[.int .i64 x,.int .i64 y] 113)).drewN nq).alloc (.cells #[] 113)=wS at *
  go_loopw [6,7,8] (fun o put i wr=>∃(k m gO cO:Nat) (ds:List (Int×Int)),k≤n∧i= .int .i64 k∧put= .bool (decide (c<k))∧o= .slice (some ⟨gO,0,none⟩) m cO∧Hid (ds=done ps c (x,y) k∧m=many c k)∧
    m≤21∧Own 113 wr (w.heap.size+1) gO m cO ds∧Own 113 wr w.heap.size w.heap.size 1 1 [(x,y)]∧Below w.heap.size w wr) (fun _ _ i _=>n-(intOf i).toNat)
  case atStart=>
   refine⟨0,0,_,_,[],by omega,rfl,?_,rfl,zh ⟨?_,?_⟩,by omega,oO,oA3,zu HB1⟩
   ·simp
   ·simp[done,many]
   ·simp[many]
  case round=>
   clear oO oA3 HB1
   obtain⟨k,m,gO,cO,ds,hk,rfl,rfl,rfl,HD,m21,own,oA,hb⟩:=hrel
   by_cases t:k<n
   ·obtain⟨e1,e2⟩:=(zu H).below hb hg k (by omega)
    obtain⟨a1,a2⟩:=oA.at 0 (by simp)
    have HO:=zh own
    have HA:=zh oA
    have HB:=zh hb
    have es:=hb.size
    have gne:=own.lt.1
    have als:=oA.lt.2
    clear own oA hb
    rcases Nat.lt_trichotomy k c with l|l|l
    ·have lt:(el ps k).1<x:=(zu PC).2.1 k l
     have gd:decide (x≤(el ps k).1)=false:=decide_eq_false (by omega)
     have nk:decide (c<k)=false:=by simp;omega
     have nk2:decide (c<k+1)=false:=by simp;omega
     have ED:=zh (done_ahead ps c (x,y) k (by omega) l)
     have EM:=zh (show many c (k+1)=many c k+1 by unfold many;rw[if_neg (by omega),if_neg (by omega)])
     have ED:Hid (done ps c (x,y) (k+1)=done ps c (x,y) k++[((el ps k).1,(el ps k).2)]):=ED
     have mk:Hid (m≤20):=zh (by have:=(zu HD).2;unfold many at this;rw[if_neg (by omega)] at this;omega)
     have m20:m≤20:=zu mk
     generalize (el ps k).1=p1 at *
     generalize (el ps k).2=p2 at *
     rw[nk]
     go_wp2
     go_quiet (fail)
     generalize hw1:wr.drewN nq=w1
     have o1:Own 113 w1 (w.heap.size+1) gO m cO ds:=by rw[←hw1];exact zu HO
     have a1:Own 113 w1 w.heap.size w.heap.size 1 1 [(x,y)]:=by rw[←hw1];exact zu HA
     have b1:Below w.heap.size w w1:=by rw[←hw1];exact below_drewN (zu HB) nq
     have f1:w1.cell? ⟨g,k*2,none⟩=some (.int .i64 p1):=by rw[←hw1];exact e1
     have f2:w1.cell? ⟨g,k*2+1,none⟩=some (.int .i64 p2):=by rw[←hw1];exact e2
     obtain⟨d1,d2⟩:=a1.at 0 (by simp)
     have d1:w1.cell? ⟨w.heap.size,0,none⟩=some (.int .i64 x):=d1
     have d2:w1.cell? ⟨w.heap.size,1,none⟩=some (.int .i64 y):=d2
     have es1:=b1.size
     have as1:=a1.lt.2
     clear hw1 e1 e2 HO HA HB es
     go_wp2_with (at_builtin;refine wpList_append_own _ rfl (.tmp 36) (.tmp 41) 39 rfl (w.heap.size+1) 113 i0 (.agg #[.int .i64 0,.int .i64 0]) 2 16 Tryz.underlying39 hi hz0 hz1 hz2 rfl (by decide) (.slice (some ⟨gO,0,none⟩) m cO) m _ rfl (o1.alloc _) ⟨w1.heap.size,0,none⟩ 1 1 [.int .i64 p1,.int .i64 p2] rfl rfl (lit1 _ w1 0 _ _ (Nat.zero_le _)).at.cells (fun u hu=>flat_one u [(p1,p2)] hu) (by unfold maxLen;omega) (by omega) (by simp;omega) ?_)
     intro v2 w2 own2 (gr2:World.grownBy _ w2 (some gO)) nil2
     obtain⟨g2,c2,rfl,o2⟩:=own_of_row (n':=m+1) (ps:=ds++[(p1,p2)]) own2 (by omega) (by rw[flat_append];rfl) (by first|exact nil2|(rw[nil2];simp))
     have a2:=(a1.alloc (.cells #[.int .i64 p1,.int .i64 p2] 113)).kept gr2 (by simp;omega)
     have b2:Below w.heap.size w w2:=(b1.alloc es1 _).grown gr2 (by simp;omega) (by simp;omega)
     have es2:=b2.size
     have as2:=a2.lt.2
     have gn2:=o2.lt.1
     clear own2 gr2 nil2 o1 a1 b1 d1 d2 f1 f2
     go_wp2
     go_roundw
     case rel=>exact⟨k+1,m+1,g2,c2,_,by omega,by go_num,by rw[nk2],rfl,zh ⟨by rw[zu ED,(zu HD).1],by rw[zu EM,(zu HD).2]⟩,by omega,o2,a2,b2⟩
     case measure=>simp[intOf];omega
    ·have ge:x≤(el ps k).1:=(by subst l;exact(zu PC).2.2 (by omega))
     have gd:decide (x≤(el ps k).1)=true:=decide_eq_true ge
     have nk:decide (c<k)=false:=by simp;omega
     have nk2:decide (c<k+1)=true:=by simp;omega
     have ED:Hid (done ps c (x,y) (k+1)=done ps c (x,y) k++[(x,y)]++[((el ps k).1,(el ps k).2)]):=zh (by subst l;exact done_at ps k (x,y) (by omega))
     have EM:=zh (show many c (k+1)=many c k+2 by unfold many;rw[if_pos (by omega),if_neg (by omega)])
     have mk:Hid (m+1≤8):=zh (by have:=(zu HD).2;unfold many at this;rw[if_neg (by omega)] at this;omega)
     have mm:m+1≤8:=zu mk
     clear l
     generalize (el ps k).1=p1 at *
     generalize (el ps k).2=p2 at *
     rw[nk]
     go_wp2
     go_quiet (fail)
     generalize hw1:wr.drewN nq=w1
     have o1:Own 113 w1 (w.heap.size+1) gO m cO ds:=by rw[←hw1];exact zu HO
     have a1:Own 113 w1 w.heap.size w.heap.size 1 1 [(x,y)]:=by rw[←hw1];exact zu HA
     have b1:Below w.heap.size w w1:=by rw[←hw1];exact below_drewN (zu HB) nq
     have f1:w1.cell? ⟨g,k*2,none⟩=some (.int .i64 p1):=by rw[←hw1];exact e1
     have f2:w1.cell? ⟨g,k*2+1,none⟩=some (.int .i64 p2):=by rw[←hw1];exact e2
     obtain⟨d1,d2⟩:=a1.at 0 (by simp)
     have d1:w1.cell? ⟨w.heap.size,0,none⟩=some (.int .i64 x):=d1
     have d2:w1.cell? ⟨w.heap.size,1,none⟩=some (.int .i64 y):=d2
     have es1:=b1.size
     have as1:=a1.lt.2
     clear hw1 e1 e2 HO HA HB es
     go_wp2_with (at_builtin;refine wpList_append_own _ rfl (.tmp 32) (.tmp 34) 39 rfl (w.heap.size+1) 113 i0 (.agg #[.int .i64 0,.int .i64 0]) 2 16 Tryz.underlying39 hi hz0 hz1 hz2 rfl (by decide) (.slice (some ⟨gO,0,none⟩) m cO) m _ rfl (o1.alloc _) ⟨w1.heap.size,0,none⟩ 1 1 [.int .i64 x,.int .i64 y] rfl rfl (lit1 _ w1 0 _ _ (Nat.zero_le _)).at.cells (fun u hu=>flat_one u [(x,y)] hu) (by unfold maxLen;omega) (by omega) (by simp;omega) ?_)
     intro v2 w2 own2 (gr2:World.grownBy _ w2 (some gO)) nil2
     obtain⟨g2,c2,rfl,o2⟩:=own_of_row (n':=m+1) (ps:=ds++[(x,y)]) own2 (by omega) (by rw[flat_append];rfl) (by first|exact nil2|(rw[nil2];simp))
     have a2:=(a1.alloc (.cells #[.int .i64 x,.int .i64 y] 113)).kept gr2 (by simp;omega)
     have b2:Below w.heap.size w w2:=(b1.alloc es1 _).grown gr2 (by simp;omega) (by simp;omega)
     have es2:=b2.size
     have as2:=a2.lt.2
     have gn2:=o2.lt.1
     have h1:w2.cell? ⟨g,k*2,none⟩=some (.int .i64 p1):=(sameOld b1 b2 (p:=⟨g,k*2,none⟩) hg).trans f1
     have h2:w2.cell? ⟨g,k*2+1,none⟩=some (.int .i64 p2):=(sameOld b1 b2 (p:=⟨g,k*2+1,none⟩) hg).trans f2
     clear own2 gr2 nil2 o1 a1 b1 d1 d2 f1 f2
     go_wp2_with (at_builtin;refine wpList_append_own _ rfl (.tmp 36) (.tmp 41) 39 rfl (w.heap.size+1) 113 i0 (.agg #[.int .i64 0,.int .i64 0]) 2 16 Tryz.underlying39 hi hz0 hz1 hz2 rfl (by decide) (.slice (some ⟨g2,0,none⟩) (m+1) c2) (m+1) _ rfl (o2.alloc _) ⟨w2.heap.size,0,none⟩ 1 1 [.int .i64 p1,.int .i64 p2] rfl rfl (lit1 _ w2 0 _ _ (Nat.zero_le _)).at.cells (fun u hu=>flat_one u [(p1,p2)] hu) (by unfold maxLen;omega) (by omega) (by simp;omega) ?_)
     intro v3 w3 own3 (gr3:World.grownBy _ w3 (some g2)) nil3
     obtain⟨g3,c3,rfl,o3⟩:=own_of_row (n':=m+2) (ps:=ds++[(x,y)]++[(p1,p2)]) own3 (by omega) (flat_append (ds++[(x,y)]) [(p1,p2)]).symm (by first|exact nil3|(rw[nil3];simp))
     have a3:=(a2.alloc (.cells #[.int .i64 p1,.int .i64 p2] 113)).kept gr3 (by simp;omega)
     have b3:Below w.heap.size w w3:=(b2.alloc es2 _).grown gr3 (by simp;omega) (by simp;omega)
     have es3:=b3.size
     have as3:=a3.lt.2
     have gn3:=o3.lt.1
     clear own3 gr3 nil3 o2 a2 b2 h1 h2
     go_wp2
     go_roundw
     case rel=>exact⟨k+1,m+2,g3,c3,_,by omega,by go_num,by rw[nk2],rfl,zh ⟨by rw[zu ED,(zu HD).1],by rw[zu EM,(zu HD).2]⟩,by omega,o3,a3,b3⟩
     case measure=>simp[intOf];omega
    ·have nk:decide (c<k)=true:=by simp;omega
     have nk2:decide (c<k+1)=true:=by simp;omega
     have ED:Hid (done ps c (x,y) (k+1)=done ps c (x,y) k++[((el ps k).1,(el ps k).2)]):=zh (done_behind ps c (x,y) k (by omega) l (by omega))
     have EM:=zh (show many c (k+1)=many c k+1 by unfold many;rw[if_pos (by omega),if_pos (by omega)])
     have mk:Hid (m≤8):=zh (by have:=(zu HD).2;unfold many at this;rw[if_pos (by omega)] at this;omega)
     have mm:=zu mk
     generalize (el ps k).1=p1 at *
     generalize (el ps k).2=p2 at *
     rw[nk]
     go_wp2
     go_quiet (fail)
     generalize hw1:wr.drewN nq=w1
     have o1:Own 113 w1 (w.heap.size+1) gO m cO ds:=by rw[←hw1];exact zu HO
     have a1:Own 113 w1 w.heap.size w.heap.size 1 1 [(x,y)]:=by rw[←hw1];exact zu HA
     have b1:Below w.heap.size w w1:=by rw[←hw1];exact below_drewN (zu HB) nq
     have f1:w1.cell? ⟨g,k*2,none⟩=some (.int .i64 p1):=by rw[←hw1];exact e1
     have f2:w1.cell? ⟨g,k*2+1,none⟩=some (.int .i64 p2):=by rw[←hw1];exact e2
     obtain⟨d1,d2⟩:=a1.at 0 (by simp)
     have d1:w1.cell? ⟨w.heap.size,0,none⟩=some (.int .i64 x):=d1
     have d2:w1.cell? ⟨w.heap.size,1,none⟩=some (.int .i64 y):=d2
     have es1:=b1.size
     have as1:=a1.lt.2
     clear hw1 e1 e2 HO HA HB es
     go_wp2_with (at_builtin;refine wpList_append_own _ rfl (.tmp 36) (.tmp 41) 39 rfl (w.heap.size+1) 113 i0 (.agg #[.int .i64 0,.int .i64 0]) 2 16 Tryz.underlying39 hi hz0 hz1 hz2 rfl (by decide) (.slice (some ⟨gO,0,none⟩) m cO) m _ rfl (o1.alloc _) ⟨w1.heap.size,0,none⟩ 1 1 [.int .i64 p1,.int .i64 p2] rfl rfl (lit1 _ w1 0 _ _ (Nat.zero_le _)).at.cells (fun u hu=>flat_one u [(p1,p2)] hu) (by unfold maxLen;omega) (by omega) (by simp;omega) ?_)
     intro v2 w2 own2 (gr2:World.grownBy _ w2 (some gO)) nil2
     obtain⟨g2,c2,rfl,o2⟩:=own_of_row (n':=m+1) (ps:=ds++[(p1,p2)]) own2 (by omega) (by rw[flat_append];rfl) (by first|exact nil2|(rw[nil2];simp))
     have a2:=(a1.alloc (.cells #[.int .i64 p1,.int .i64 p2] 113)).kept gr2 (by simp;omega)
     have b2:Below w.heap.size w w2:=(b1.alloc es1 _).grown gr2 (by simp;omega) (by simp;omega)
     have es2:=b2.size
     have as2:=a2.lt.2
     have gn2:=o2.lt.1
     clear own2 gr2 nil2 o1 a1 b1 d1 d2 f1 f2
     go_wp2
     go_roundw
     case rel=>exact⟨k+1,m+1,g2,c2,_,by omega,by go_num,by rw[nk2],rfl,zh ⟨by rw[zu ED,(zu HD).1],by rw[zu EM,(zu HD).2]⟩,by omega,o2,a2,b2⟩
     case measure=>simp[intOf];omega
   ·obtain rfl:k=n:=by omega
    by_cases cn:c<k
    ·have nk:decide (c<k)=true:=by simp;omega
     obtain⟨rfl,rfl⟩:=zu HD
     have own:Own 113 wr (w.heap.size+1) gO (k+1) cO (ins ps c (x,y)):=by
      have e:many c k=k+1:=by unfold many;rw[if_pos cn]
      have e2:=done_all ps c (x,y) (by omega)
      rw[hl] at e2
      rw[e,e2] at own
      exact own
     have em:Hid (many c k=k+1):=by unfold Hid many;rw[if_pos cn]
     rw[zu em,nk]
     clear em nk HD
     obtain⟨ok2,OK2⟩:=says_of 8 2 (ins ps c (x,y))
     have li:(ins ps c (x,y)).length=k+1:=by rw[ins_len _ _ _ (by omega)];omega
     have es:=hb.size
     cases ok2
     ·go_wp2_with fail
      refine(sOk _ gO (k+1) cO (ins ps c (x,y)) false li (by omega) own.at OK2).mono ?_
      rintro e w7 ⟨rfl,nq2,rfl⟩
      have bq:=below_drewN hb nq2
      generalize wr.drewN nq2=w8 at *
      have es8:=bq.size
      clear own hb
      go_wp2_with (at_builtin;refine wpList_append_own _ rfl (.tmp 52) (.tmp 53) 39 rfl w.heap.size 113 i0 (.agg #[.int .i64 0,.int .i64 0]) 2 16 Tryz.underlying39 hi hz0 hz1 hz2 rfl (by decide) (.slice (some ⟨w8.heap.size,0,none⟩) 0 0) 0 _ rfl (lit0 _ w8 w.heap.size bq.size) ⟨g,0,none⟩ k cap (flat ps) rfl (by rw[flat_len,hl]) ((zu H).below (bq.alloc (o:= .cells #[] 113) bq.size) hg).cells (fun u hu=>flat_one u ps hu) (by unfold maxLen;omega) (by omega) (by simp;omega) ?_)
      intro v9 w9 own9 (gr9:World.grownBy _ w9 (some w8.heap.size)) nil9
      obtain⟨g9,c9,rfl,o9⟩:=own_of_row (n':=k) (ps:=ps) own9 (by omega) (by rw[flat_nil,List.nil_append]) (by first|exact nil9|(rw[nil9];simp))
      have b9:Below w.heap.size w w9:=(bq.alloc bq.size _).grown gr9 (by simp;omega) (by simp;omega)
      clear own9 gr9 nil9
      go_wp2
      go_ret2
      exact⟨ps,false,g9,c9,.inr ⟨OK.yes,c,zu PC,.inl ⟨OK2.no,rfl,rfl⟩⟩,by rw[hl];rfl,by rw[hl];exact o9,b9⟩
     ·go_wp2_with fail
      refine(sOk _ gO (k+1) cO (ins ps c (x,y)) true li (by omega) own.at OK2).mono ?_
      rintro e w7 ⟨rfl,nq2,rfl⟩
      have bq:=below_drewN hb nq2
      have oq:Own 113 (wr.drewN nq2) (w.heap.size+1) gO (k+1) cO (ins ps c (x,y)):=own
      generalize wr.drewN nq2=w8 at *
      clear own hb
      go_wp2
      go_ret2
      exact⟨ins ps c (x,y),true,gO,cO,.inr ⟨OK.yes,c,zu PC,.inr ⟨OK2.yes,rfl,rfl⟩⟩,by rw[li];rfl,by rw[li];exact oq.rebase (by have:=oq.lt.1;omega),bq⟩
    ·obtain rfl:c=k:=by omega
     have nk:decide (c<c)=false:=by simp
     obtain⟨rfl,rfl⟩:=zu HD
     have em:Hid (many c c=c):=by unfold Hid many;rw[if_neg (by omega)]
     rw[zu em] at own
     rw[zu em,nk]
     obtain⟨d1,d2⟩:=oA.at 0 (by simp)
     have d1:wr.cell? ⟨w.heap.size,0,none⟩=some (.int .i64 x):=d1
     have d2:wr.cell? ⟨w.heap.size,1,none⟩=some (.int .i64 y):=d2
     have es:=hb.size
     have asw:=oA.lt.2
     have gne:=own.lt.1
     clear em nk HD m21
     go_wp2_with (at_builtin;refine wpList_append_own _ rfl (.tmp 45) (.tmp 47) 39 rfl (w.heap.size+1) 113 i0 (.agg #[.int .i64 0,.int .i64 0]) 2 16 Tryz.underlying39 hi hz0 hz1 hz2 rfl (by decide) (.slice (some ⟨gO,0,none⟩) c cO) c _ rfl (own.alloc _) ⟨wr.heap.size,0,none⟩ 1 1 [.int .i64 x,.int .i64 y] rfl rfl (lit1 _ wr 0 _ _ (Nat.zero_le _)).at.cells (fun u hu=>flat_one u [(x,y)] hu) (by unfold maxLen;omega) (by omega) (by simp;omega) ?_)
     intro v2 w2 own2 (gr2:World.grownBy _ w2 (some gO)) nil2
     obtain⟨g2,c2,rfl,o2⟩:=own_of_row (n':=c+1) (ps:=ins ps c (x,y)) own2 (by omega) (by have:=done_last ps (x,y);rw[hl] at this;rw[←this,flat_append];rfl) (by first|exact nil2|(rw[nil2];simp))
     have b2:Below w.heap.size w w2:=(hb.alloc es _).grown gr2 (by simp;omega) (by simp;omega)
     clear own2 gr2 nil2 own oA hb d1 d2 es
     obtain⟨ok2,OK2⟩:=says_of 8 2 (ins ps c (x,y))
     have li:(ins ps c (x,y)).length=c+1:=by rw[ins_len _ _ _ (by omega)];omega
     have es:=b2.size
     cases ok2
     ·go_wp2_with fail
      refine(sOk _ g2 (c+1) c2 (ins ps c (x,y)) false li (by omega) o2.at OK2).mono ?_
      rintro e w7 ⟨rfl,nq2,rfl⟩
      have bq:=below_drewN b2 nq2
      generalize w2.drewN nq2=w8 at *
      have es8:=bq.size
      clear o2 b2
      go_wp2_with (at_builtin;refine wpList_append_own _ rfl (.tmp 52) (.tmp 53) 39 rfl w.heap.size 113 i0 (.agg #[.int .i64 0,.int .i64 0]) 2 16 Tryz.underlying39 hi hz0 hz1 hz2 rfl (by decide) (.slice (some ⟨w8.heap.size,0,none⟩) 0 0) 0 _ rfl (lit0 _ w8 w.heap.size bq.size) ⟨g,0,none⟩ c cap (flat ps) rfl (by rw[flat_len,hl]) ((zu H).below (bq.alloc (o:= .cells #[] 113) bq.size) hg).cells (fun u hu=>flat_one u ps hu) (by unfold maxLen;omega) (by omega) (by simp;omega) ?_)
      intro v9 w9 own9 (gr9:World.grownBy _ w9 (some w8.heap.size)) nil9
      obtain⟨g9,c9,rfl,o9⟩:=own_of_row (n':=c) (ps:=ps) own9 (by omega) (by rw[flat_nil,List.nil_append]) (by first|exact nil9|(rw[nil9];simp))
      have b9:Below w.heap.size w w9:=(bq.alloc bq.size _).grown gr9 (by simp;omega) (by simp;omega)
      clear own9 gr9 nil9
      go_wp2
      go_ret2
      exact⟨ps,false,g9,c9,.inr ⟨OK.yes,c,zu PC,.inl ⟨OK2.no,rfl,rfl⟩⟩,by rw[hl];rfl,by rw[hl];exact o9,b9⟩
     ·go_wp2_with fail
      refine(sOk _ g2 (c+1) c2 (ins ps c (x,y)) true li (by omega) o2.at OK2).mono ?_
      rintro e w7 ⟨rfl,nq2,rfl⟩
      have bq:=below_drewN b2 nq2
      have oq:Own 113 (w2.drewN nq2) (w.heap.size+1) g2 (c+1) c2 (ins ps c (x,y)):=o2
      generalize w2.drewN nq2=w8 at *
      clear o2 b2
      go_wp2
      go_ret2
      exact⟨ins ps c (x,y),true,g2,c2,.inr ⟨OK.yes,c,zu PC,.inr ⟨OK2.yes,rfl,rfl⟩⟩,by rw[li];rfl,by rw[li];exact oq.rebase (by have:=oq.lt.1;omega),bq⟩
end InstrSPut
end Go.Proofs.YtcjgepkdpkhljaaGreat
