/- Texts of one proof, one behind the other: AccountHelp, AccountMark, InstrHelp, InstrMark, LotHelp, LotHeld, TradeHelp, TradeHeld. -/
import Derived.Test.YtagmnociflkhcaaGreatDoorRows
import Derived.Test.YtagmnociflkhcaaGreatDoorCards
import Derived.Test.YtagmnociflkhcaaGreatDoorTie
import Derived.Test.YtagmnociflkhcaaGreatDoorQL0
import Derived.Test.YtagmnociflkhcaaGreatDoorQL1
import Derived.Deep.RegionHeld3
set_option linter.unusedVariables false
set_option linter.unusedSimpArgs false
open Go.ChangeShapes Go.WideShapes Go.ChangeAt Go.RowKit
set_option maxRecDepth 100000
set_option maxHeartbeats 32000000
namespace Go.Proofs.YtagmnociflkhcaaGreatDoor
namespace AccountHelp
open Pairs
theorem eq1(w:World)(x y:Int):Calls Tryz.prog 82 #[.agg #[.int .i64 x,.int .i64 y],.agg #[.int .i64 x,.int .i64 y]] w fun e w'=>e= .returned (.bool true)∧w'=(w.alloc (.cells #[.int .i64 x,.int .i64 y] 75)).alloc (.cells #[.int .i64 x,.int .i64 y] 75):=by
 go_enter Tryz.func82,Tryz.ntmps82
 go_wp2
 go_ret
 exact⟨rfl,rfl⟩
theorem two_more(w:World)(o p:Obj):Below w.heap.size w ((w.alloc o).alloc p).drew:=(((Below.refl _ _).alloc (Nat.le_refl _) _).alloc (by simp) _).drew
theorem eqS(w:World)(g1 g2 n c1 c2:Nat)(ps:List (Int×Int))(hl:ps.length=n)(h20:n≤1048576)(l1:g1<w.heap.size)(l2:g2<w.heap.size)(h1:At w g1 ps)(h2:At w g2 ps):
  Calls Tryz.prog 46 #[.slice (some ⟨g1,0,none⟩) n c1,.slice (some ⟨g2,0,none⟩) n c2] w fun e w'=>e= .returned (.bool true)∧Below w.heap.size w w':=by
 go_enter Tryz.func46,Tryz.ntmps46
 go_wp2
 go_loopw [5] (fun i wr=>∃(k:Nat),k≤n∧i= .int .i64 k∧At wr g1 ps∧At wr g2 ps∧Below w.heap.size w wr) (fun i _=>n-(intOf i).toNat)
 case atStart=>exact⟨0,by omega,rfl,h1,h2,Below.refl _ _⟩
 case round=>
  clear h1 h2
  obtain⟨k,hk,rfl,h1,h2,hb⟩:=hrel
  by_cases t:k<n
  ·obtain⟨e1,f1⟩:=h1 k (by omega)
   obtain⟨e2,f2⟩:=h2 k (by omega)
   have s:=hb.size
   have H1:=zh h1
   have H2:=zh h2
   have HB:=zh hb
   clear h1 h2 hb
   generalize (ps.getD k (0,0)).1=x at *
   generalize (ps.getD k (0,0)).2=y at *
   go_wp2_with fail
   go_region_held3 (fun w'=>w'.cell? ⟨g1,k*2,none⟩=some (.int .i64 x)∧w'.cell? ⟨g2,k*2,none⟩=some (.int .i64 x)∧w'.cell? ⟨g1,k*2+1,none⟩=some (.int .i64 y)∧w'.cell? ⟨g2,k*2+1,none⟩=some (.int .i64 y)) (go_keep)
    (first|(go_at_call 82;refine(eq1 _ _ _).mono ?_;rintro e w2 ⟨rfl,rfl⟩))
   all_goals(go_wp2;go_roundw)
   all_goals first
    |(have b2:=two_more wr (.cells #[.int .i64 x,.int .i64 y] 75) (.cells #[.int .i64 x,.int .i64 y] 75)
      exact⟨k+1,by omega,by go_num,(zu H1).below b2 (by omega),(zu H2).below b2 (by omega),next (zu HB) b2⟩)
    |(simp[intOf];omega)
  ·have HB:=zh hb
   clear h1 h2 hb
   go_wp2
   go_ret
   exact⟨rfl,zu HB⟩
end AccountHelp
namespace AccountMark
open Pairs
def marks(s:Int)(n:Nat):List (Int×Int):=(List.range n).map fun(i:Nat)=>(s+2*(i:Int),s+2*(i:Int)+1)
theorem marks_len(s:Int)(n:Nat):(marks s n).length=n:=by simp[marks]
theorem marks_getD(s:Int)(n i:Nat)(h:i<n):(marks s n).getD i (0,0)=(s+2*(i:Int),s+2*(i:Int)+1):=by simp[marks,List.getD,h]
def marked(s:Int)(ps:List (Int×Int))(n j:Nat):List (Int×Int):=(marks s n).take j++ps.drop j
theorem marked_zero(s:Int)(ps:List (Int×Int))(n:Nat):marked s ps n 0=ps:=by simp[marked]
theorem marked_all(s:Int)(ps:List (Int×Int))(n:Nat)(h:ps.length=n):marked s ps n n=marks s n:=by
 unfold marked
 rw[List.take_of_length_le (by rw[marks_len];exact Nat.le_refl _),List.drop_of_length_le (by omega),List.append_nil]
theorem marked_step(s:Int)(ps:List (Int×Int))(n j:Nat)(h:ps.length=n)(hj:j<n):((marked s ps n j).modify j fun p=>(s+2*(j:Int),p.2)).modify j (fun p=>(p.1,s+2*(j:Int)+1))=marked s ps n (j+1):=by
 unfold marked
 have l:=marks_len s n
 have g:=marks_getD s n j hj
 have l1:((marks s n).take j).length=j:=by simp;omega
 have l2:((marks s n).take (j+1)).length=j+1:=by simp;omega
 apply List.ext_getElem?
 intro i
 rw[List.getElem?_modify,List.getElem?_modify]
 by_cases e:j=i
 ·subst e
  rw[List.getElem?_append_right (by omega),List.getElem?_append_left (by omega),List.getElem?_take,if_pos (by omega),l1]
  have hg:(marks s n)[j]?=some (s+2*(j:Int),s+2*(j:Int)+1):=by
   rw[←g];simp[List.getD,l,hj]
  rw[hg]
  simp[List.getElem?_drop,h,hj]
 ·by_cases q:i<j
  ·rw[List.getElem?_append_left (by omega),List.getElem?_append_left (by omega),List.getElem?_take,List.getElem?_take,if_pos q,if_pos (by omega)]
   simp[e]
  ·rw[List.getElem?_append_right (by omega),List.getElem?_append_right (by omega),l1,l2]
   simp only[List.getElem?_drop]
   rw[show j+(i-j)=i by omega,show j+1+(i-(j+1))=i by omega]
   simp[e]
theorem markS(w:World)(base g n cap:Nat)(s:Int)(ps:List (Int×Int))(h20:n≤1048576)(s0:0≤s)(s1:s≤100000000)(ho:Own 75 w base g n cap ps):
  Calls Tryz.prog 53 #[.slice (some ⟨g,0,none⟩) n cap,.int .i64 s] w fun e w'=>e= .returned (.int .i64 (s+2*(n:Int)))∧Own 75 w' base g n cap (marks s n)∧w.grownBy w' (some g):=by
 have hl:=ho.len
 have ho':Own 75 w base g n cap (marked s ps n 0):=by rw[marked_zero];exact ho
 clear ho
 go_enter Tryz.func53,Tryz.ntmps53
 go_wp2
 go_loopw [1,5] (fun m i wr=>∃(k:Nat),k≤n∧i= .int .i64 k∧m= .int .i64 (s+2*(k:Int))∧Own 75 wr base g n cap (marked s ps n k)∧w.grownBy wr (some g)) (fun _ i _=>n-(intOf i).toNat)
 case atStart=>exact⟨0,by omega,rfl,by go_num,ho',World.grownBy.refl _ _⟩
 case round=>
  clear ho'
  obtain⟨k,hk,rfl,rfl,hown,hg⟩:=hrel
  by_cases t:k<n
  ·obtain⟨o1,q1⟩:=hown.set0 k (s+2*(k:Int))
   obtain⟨o2,q2⟩:=o1.set1 k (s+2*(k:Int)+1)
   obtain⟨hd0,hd1⟩:=hown.at k (by rw[Own.len hown];exact t)
   have hf0:=hown.free (k*2)
   have hf1:=hown.free (k*2+1)
   rw[marked_step s ps n k hl t] at o2
   have HO:=zh o2
   have HG:=zh (grown_trans (grown_trans hg q1) q2)
   clear hown hg o1 q1 o2 q2
   generalize ((marked s ps n k).getD k (0,0)).1=z0 at hd0
   generalize ((marked s ps n k).getD k (0,0)).2=z1 at hd1
   go_wp2
   go_roundw
   case rel=>exact⟨k+1,by omega,by go_num,by go_num,zu HO,zu HG⟩
   case measure=>simp[intOf];omega
  ·obtain rfl:k=n:=by omega
   rw[marked_all s ps k hl] at hown
   have HO:=zh hown
   have HG:=zh hg
   clear hown hg
   go_wp2
   go_ret
   exact⟨rfl,zu HO,zu HG⟩
theorem heldS(w:World)(g n cap:Nat)(s:Int)(h20:n≤1048576)(s0:0≤s)(s1:s≤100000000)(h:At w g (marks s n)):
  Calls Tryz.prog 58 #[.slice (some ⟨g,0,none⟩) n cap,.int .i64 s] w fun e w'=>e= .returned (.int .i64 (s+2*(n:Int)))∧w'=w:=by
 go_enter Tryz.func58,Tryz.ntmps58
 go_wp2
 go_loop [1,5] (fun m i=>∃(k:Nat),k≤n∧i= .int .i64 k∧m= .int .i64 (s+2*(k:Int))) (fun _ i=>n-(intOf i).toNat)
 case atStart=>exact⟨0,by omega,rfl,by go_num⟩
 case round=>
  obtain⟨k,hk,rfl,rfl⟩:=hrel
  by_cases t:k<n
  ·obtain⟨e0,e1⟩:=h k (by rw[marks_len];exact t)
   rw[marks_getD s n k t] at e0 e1
   clear h
   go_wp2
   go_round
   case rel=>exact⟨k+1,by omega,by go_num,by go_num⟩
   case measure=>simp[intOf];omega
  ·obtain rfl:k=n:=by omega
   clear h
   go_wp2
   go_ret
   exact⟨rfl,rfl⟩
end AccountMark
namespace InstrHelp
open Pairs
theorem eq1(w:World)(x y:Int):Calls Tryz.prog 83 #[.agg #[.int .i64 x,.int .i64 y],.agg #[.int .i64 x,.int .i64 y]] w fun e w'=>e= .returned (.bool true)∧w'=(w.alloc (.cells #[.int .i64 x,.int .i64 y] 76)).alloc (.cells #[.int .i64 x,.int .i64 y] 76):=by
 go_enter Tryz.func83,Tryz.ntmps83
 go_wp2
 go_ret
 exact⟨rfl,rfl⟩
theorem two_more(w:World)(o p:Obj):Below w.heap.size w ((w.alloc o).alloc p).drew:=(((Below.refl _ _).alloc (Nat.le_refl _) _).alloc (by simp) _).drew
theorem eqS(w:World)(g1 g2 n c1 c2:Nat)(ps:List (Int×Int))(hl:ps.length=n)(h20:n≤1048576)(l1:g1<w.heap.size)(l2:g2<w.heap.size)(h1:At w g1 ps)(h2:At w g2 ps):
  Calls Tryz.prog 47 #[.slice (some ⟨g1,0,none⟩) n c1,.slice (some ⟨g2,0,none⟩) n c2] w fun e w'=>e= .returned (.bool true)∧Below w.heap.size w w':=by
 go_enter Tryz.func47,Tryz.ntmps47
 go_wp2
 go_loopw [5] (fun i wr=>∃(k:Nat),k≤n∧i= .int .i64 k∧At wr g1 ps∧At wr g2 ps∧Below w.heap.size w wr) (fun i _=>n-(intOf i).toNat)
 case atStart=>exact⟨0,by omega,rfl,h1,h2,Below.refl _ _⟩
 case round=>
  clear h1 h2
  obtain⟨k,hk,rfl,h1,h2,hb⟩:=hrel
  by_cases t:k<n
  ·obtain⟨e1,f1⟩:=h1 k (by omega)
   obtain⟨e2,f2⟩:=h2 k (by omega)
   have s:=hb.size
   have H1:=zh h1
   have H2:=zh h2
   have HB:=zh hb
   clear h1 h2 hb
   generalize (ps.getD k (0,0)).1=x at *
   generalize (ps.getD k (0,0)).2=y at *
   go_wp2_with fail
   go_region_held3 (fun w'=>w'.cell? ⟨g1,k*2,none⟩=some (.int .i64 x)∧w'.cell? ⟨g2,k*2,none⟩=some (.int .i64 x)∧w'.cell? ⟨g1,k*2+1,none⟩=some (.int .i64 y)∧w'.cell? ⟨g2,k*2+1,none⟩=some (.int .i64 y)) (go_keep)
    (first|(go_at_call 83;refine(eq1 _ _ _).mono ?_;rintro e w2 ⟨rfl,rfl⟩))
   all_goals(go_wp2;go_roundw)
   all_goals first
    |(have b2:=two_more wr (.cells #[.int .i64 x,.int .i64 y] 76) (.cells #[.int .i64 x,.int .i64 y] 76)
      exact⟨k+1,by omega,by go_num,(zu H1).below b2 (by omega),(zu H2).below b2 (by omega),next (zu HB) b2⟩)
    |(simp[intOf];omega)
  ·have HB:=zh hb
   clear h1 h2 hb
   go_wp2
   go_ret
   exact⟨rfl,zu HB⟩
end InstrHelp
namespace InstrMark
open Pairs
def marks(s:Int)(n:Nat):List (Int×Int):=(List.range n).map fun(i:Nat)=>(s+2*(i:Int),s+2*(i:Int)+1)
theorem marks_len(s:Int)(n:Nat):(marks s n).length=n:=by simp[marks]
theorem marks_getD(s:Int)(n i:Nat)(h:i<n):(marks s n).getD i (0,0)=(s+2*(i:Int),s+2*(i:Int)+1):=by simp[marks,List.getD,h]
def marked(s:Int)(ps:List (Int×Int))(n j:Nat):List (Int×Int):=(marks s n).take j++ps.drop j
theorem marked_zero(s:Int)(ps:List (Int×Int))(n:Nat):marked s ps n 0=ps:=by simp[marked]
theorem marked_all(s:Int)(ps:List (Int×Int))(n:Nat)(h:ps.length=n):marked s ps n n=marks s n:=by
 unfold marked
 rw[List.take_of_length_le (by rw[marks_len];exact Nat.le_refl _),List.drop_of_length_le (by omega),List.append_nil]
theorem marked_step(s:Int)(ps:List (Int×Int))(n j:Nat)(h:ps.length=n)(hj:j<n):((marked s ps n j).modify j fun p=>(s+2*(j:Int),p.2)).modify j (fun p=>(p.1,s+2*(j:Int)+1))=marked s ps n (j+1):=by
 unfold marked
 have l:=marks_len s n
 have g:=marks_getD s n j hj
 have l1:((marks s n).take j).length=j:=by simp;omega
 have l2:((marks s n).take (j+1)).length=j+1:=by simp;omega
 apply List.ext_getElem?
 intro i
 rw[List.getElem?_modify,List.getElem?_modify]
 by_cases e:j=i
 ·subst e
  rw[List.getElem?_append_right (by omega),List.getElem?_append_left (by omega),List.getElem?_take,if_pos (by omega),l1]
  have hg:(marks s n)[j]?=some (s+2*(j:Int),s+2*(j:Int)+1):=by
   rw[←g];simp[List.getD,l,hj]
  rw[hg]
  simp[List.getElem?_drop,h,hj]
 ·by_cases q:i<j
  ·rw[List.getElem?_append_left (by omega),List.getElem?_append_left (by omega),List.getElem?_take,List.getElem?_take,if_pos q,if_pos (by omega)]
   simp[e]
  ·rw[List.getElem?_append_right (by omega),List.getElem?_append_right (by omega),l1,l2]
   simp only[List.getElem?_drop]
   rw[show j+(i-j)=i by omega,show j+1+(i-(j+1))=i by omega]
   simp[e]
theorem markS(w:World)(base g n cap:Nat)(s:Int)(ps:List (Int×Int))(h20:n≤1048576)(s0:0≤s)(s1:s≤100000000)(ho:Own 76 w base g n cap ps):
  Calls Tryz.prog 54 #[.slice (some ⟨g,0,none⟩) n cap,.int .i64 s] w fun e w'=>e= .returned (.int .i64 (s+2*(n:Int)))∧Own 76 w' base g n cap (marks s n)∧w.grownBy w' (some g):=by
 have hl:=ho.len
 have ho':Own 76 w base g n cap (marked s ps n 0):=by rw[marked_zero];exact ho
 clear ho
 go_enter Tryz.func54,Tryz.ntmps54
 go_wp2
 go_loopw [1,5] (fun m i wr=>∃(k:Nat),k≤n∧i= .int .i64 k∧m= .int .i64 (s+2*(k:Int))∧Own 76 wr base g n cap (marked s ps n k)∧w.grownBy wr (some g)) (fun _ i _=>n-(intOf i).toNat)
 case atStart=>exact⟨0,by omega,rfl,by go_num,ho',World.grownBy.refl _ _⟩
 case round=>
  clear ho'
  obtain⟨k,hk,rfl,rfl,hown,hg⟩:=hrel
  by_cases t:k<n
  ·obtain⟨o1,q1⟩:=hown.set0 k (s+2*(k:Int))
   obtain⟨o2,q2⟩:=o1.set1 k (s+2*(k:Int)+1)
   obtain⟨hd0,hd1⟩:=hown.at k (by rw[Own.len hown];exact t)
   have hf0:=hown.free (k*2)
   have hf1:=hown.free (k*2+1)
   rw[marked_step s ps n k hl t] at o2
   have HO:=zh o2
   have HG:=zh (grown_trans (grown_trans hg q1) q2)
   clear hown hg o1 q1 o2 q2
   generalize ((marked s ps n k).getD k (0,0)).1=z0 at hd0
   generalize ((marked s ps n k).getD k (0,0)).2=z1 at hd1
   go_wp2
   go_roundw
   case rel=>exact⟨k+1,by omega,by go_num,by go_num,zu HO,zu HG⟩
   case measure=>simp[intOf];omega
  ·obtain rfl:k=n:=by omega
   rw[marked_all s ps k hl] at hown
   have HO:=zh hown
   have HG:=zh hg
   clear hown hg
   go_wp2
   go_ret
   exact⟨rfl,zu HO,zu HG⟩
theorem heldS(w:World)(g n cap:Nat)(s:Int)(h20:n≤1048576)(s0:0≤s)(s1:s≤100000000)(h:At w g (marks s n)):
  Calls Tryz.prog 59 #[.slice (some ⟨g,0,none⟩) n cap,.int .i64 s] w fun e w'=>e= .returned (.int .i64 (s+2*(n:Int)))∧w'=w:=by
 go_enter Tryz.func59,Tryz.ntmps59
 go_wp2
 go_loop [1,5] (fun m i=>∃(k:Nat),k≤n∧i= .int .i64 k∧m= .int .i64 (s+2*(k:Int))) (fun _ i=>n-(intOf i).toNat)
 case atStart=>exact⟨0,by omega,rfl,by go_num⟩
 case round=>
  obtain⟨k,hk,rfl,rfl⟩:=hrel
  by_cases t:k<n
  ·obtain⟨e0,e1⟩:=h k (by rw[marks_len];exact t)
   rw[marks_getD s n k t] at e0 e1
   clear h
   go_wp2
   go_round
   case rel=>exact⟨k+1,by omega,by go_num,by go_num⟩
   case measure=>simp[intOf];omega
  ·obtain rfl:k=n:=by omega
   clear h
   go_wp2
   go_ret
   exact⟨rfl,rfl⟩
end InstrMark
namespace LotHelp
open Tup5
theorem eq1(w:World)(x0 x1 x2 x3 x4:Int):Calls Tryz.prog 85 #[.agg #[.int .i64 x0,.int .i64 x1,.int .i64 x2,.int .i64 x3,.int .i64 x4],.agg #[.int .i64 x0,.int .i64 x1,.int .i64 x2,.int .i64 x3,.int .i64 x4]] w fun e w'=>e= .returned (.bool true)∧w'=(w.alloc (.cells #[.int .i64 x0,.int .i64 x1,.int .i64 x2,.int .i64 x3,.int .i64 x4] 80)).alloc (.cells #[.int .i64 x0,.int .i64 x1,.int .i64 x2,.int .i64 x3,.int .i64 x4] 80):=by
 go_enter Tryz.func85,Tryz.ntmps85
 go_wp2
 go_ret
 exact⟨rfl,rfl⟩
theorem two_more(w:World)(o p:Obj):Below w.heap.size w ((w.alloc o).alloc p).drew:=(((Below.refl _ _).alloc (Nat.le_refl _) _).alloc (by simp) _).drew
theorem eqS(w:World)(g1 g2 n c1 c2:Nat)(ps:List T5)(hl:ps.length=n)(h20:n≤1048576)(l1:g1<w.heap.size)(l2:g2<w.heap.size)(h1:At5 w g1 ps)(h2:At5 w g2 ps):
  Calls Tryz.prog 49 #[.slice (some ⟨g1,0,none⟩) n c1,.slice (some ⟨g2,0,none⟩) n c2] w fun e w'=>e= .returned (.bool true)∧Below w.heap.size w w':=by
 go_enter Tryz.func49,Tryz.ntmps49
 go_wp2
 go_loopw [5] (fun i wr=>∃(k:Nat),k≤n∧i= .int .i64 k∧At5 wr g1 ps∧At5 wr g2 ps∧Below w.heap.size w wr) (fun i _=>n-(intOf i).toNat)
 case atStart=>exact⟨0,by omega,rfl,h1,h2,Below.refl _ _⟩
 case round=>
  clear h1 h2
  obtain⟨k,hk,rfl,h1,h2,hb⟩:=hrel
  by_cases t:k<n
  ·obtain⟨e0,e1,e2,e3,e4⟩:=h1 k (by omega)
   obtain⟨f0,f1,f2,f3,f4⟩:=h2 k (by omega)
   have s:=hb.size
   have H1:=zh h1
   have H2:=zh h2
   have HB:=zh hb
   clear h1 h2 hb
   generalize (el5 ps k).1=x0 at *
   generalize (el5 ps k).2.1=x1 at *
   generalize (el5 ps k).2.2.1=x2 at *
   generalize (el5 ps k).2.2.2.1=x3 at *
   generalize (el5 ps k).2.2.2.2=x4 at *
   go_wp2_with fail
   go_region_held3 (fun w'=>w'.cell? ⟨g1,k*5,none⟩=some (.int .i64 x0)∧w'.cell? ⟨g2,k*5,none⟩=some (.int .i64 x0)∧w'.cell? ⟨g1,k*5+1,none⟩=some (.int .i64 x1)∧w'.cell? ⟨g2,k*5+1,none⟩=some (.int .i64 x1)∧w'.cell? ⟨g1,k*5+2,none⟩=some (.int .i64 x2)∧w'.cell? ⟨g2,k*5+2,none⟩=some (.int .i64 x2)∧w'.cell? ⟨g1,k*5+3,none⟩=some (.int .i64 x3)∧w'.cell? ⟨g2,k*5+3,none⟩=some (.int .i64 x3)∧w'.cell? ⟨g1,k*5+4,none⟩=some (.int .i64 x4)∧w'.cell? ⟨g2,k*5+4,none⟩=some (.int .i64 x4)) (go_keep)
    (first|(go_at_call 85;refine(eq1 _ _ _ _ _ _).mono ?_;rintro e w2 ⟨rfl,rfl⟩))
   all_goals(go_wp2;go_roundw)
   all_goals first
    |(have b2:=two_more wr (.cells #[.int .i64 x0,.int .i64 x1,.int .i64 x2,.int .i64 x3,.int .i64 x4] 80) (.cells #[.int .i64 x0,.int .i64 x1,.int .i64 x2,.int .i64 x3,.int .i64 x4] 80)
      exact⟨k+1,by omega,by go_num,(zu H1).below b2 (by omega),(zu H2).below b2 (by omega),next (zu HB) b2⟩)
    |(simp[intOf];omega)
  ·have HB:=zh hb
   clear h1 h2 hb
   go_wp2
   go_ret
   exact⟨rfl,zu HB⟩
def marks(s:Int)(n:Nat):List T5:=(List.range n).map fun(i:Nat)=>(s+5*(i:Int),s+5*(i:Int)+1,s+5*(i:Int)+2,s+5*(i:Int)+3,s+5*(i:Int)+4)
theorem marks_len(s:Int)(n:Nat):(marks s n).length=n:=by simp[marks]
theorem marks_getD(s:Int)(n i:Nat)(h:i<n):el5 (marks s n) i=(s+5*(i:Int),s+5*(i:Int)+1,s+5*(i:Int)+2,s+5*(i:Int)+3,s+5*(i:Int)+4):=by simp[marks,List.getD,h]
def marked(s:Int)(ps:List T5)(n j:Nat):List T5:=(marks s n).take j++ps.drop j
theorem marked_zero(s:Int)(ps:List T5)(n:Nat):marked s ps n 0=ps:=by simp[marked]
theorem marked_all(s:Int)(ps:List T5)(n:Nat)(h:ps.length=n):marked s ps n n=marks s n:=by
 unfold marked
 rw[List.take_of_length_le (by rw[marks_len];exact Nat.le_refl _),List.drop_of_length_le (by omega),List.append_nil]
theorem marked_step(s:Int)(ps:List T5)(n j:Nat)(h:ps.length=n)(hj:j<n):(((((marked s ps n j).modify j (fun p=>(s+5*(j:Int),p.2.1,p.2.2.1,p.2.2.2.1,p.2.2.2.2))).modify j (fun p=>(p.1,s+5*(j:Int)+1,p.2.2.1,p.2.2.2.1,p.2.2.2.2))).modify j (fun p=>(p.1,p.2.1,s+5*(j:Int)+1+1,p.2.2.2.1,p.2.2.2.2))).modify j (fun p=>(p.1,p.2.1,p.2.2.1,s+5*(j:Int)+1+1+1,p.2.2.2.2))).modify j (fun p=>(p.1,p.2.1,p.2.2.1,p.2.2.2.1,s+5*(j:Int)+1+1+1+1))=marked s ps n (j+1):=by
 unfold marked
 have l:=marks_len s n
 have g:=marks_getD s n j hj
 have l1:((marks s n).take j).length=j:=by simp;omega
 have l2:((marks s n).take (j+1)).length=j+1:=by simp;omega
 apply List.ext_getElem?
 intro i
 rw[List.getElem?_modify,List.getElem?_modify,List.getElem?_modify,List.getElem?_modify,List.getElem?_modify]
 by_cases e:j=i
 ·subst e
  rw[List.getElem?_append_right (by omega),List.getElem?_append_left (by omega),List.getElem?_take,if_pos (by omega),l1]
  have hg:(marks s n)[j]?=some (s+5*(j:Int),s+5*(j:Int)+1,s+5*(j:Int)+2,s+5*(j:Int)+3,s+5*(j:Int)+4):=by
   rw[←g];simp[List.getD,l,hj]
  rw[hg]
  simp[List.getElem?_drop,h,hj]
  omega
 ·by_cases d:i<j
  ·rw[List.getElem?_append_left (by omega),List.getElem?_append_left (by omega),List.getElem?_take,List.getElem?_take,if_pos d,if_pos (by omega)]
   simp[e]
  ·rw[List.getElem?_append_right (by omega),List.getElem?_append_right (by omega),l1,l2]
   simp only[List.getElem?_drop]
   rw[show j+(i-j)=i by omega,show j+1+(i-(j+1))=i by omega]
   simp[e]
theorem markS(w:World)(base g n cap:Nat)(s:Int)(ps:List T5)(h20:n≤1048576)(s0:0≤s)(s1:s≤100000000)(ho:Own5 80 w base g n cap ps):
  Calls Tryz.prog 56 #[.slice (some ⟨g,0,none⟩) n cap,.int .i64 s] w fun e w'=>e= .returned (.int .i64 (s+5*(n:Int)))∧Own5 80 w' base g n cap (marks s n)∧w.grownBy w' (some g):=by
 have hl:=ho.len
 have ho':Own5 80 w base g n cap (marked s ps n 0):=by rw[marked_zero];exact ho
 clear ho
 go_enter Tryz.func56,Tryz.ntmps56
 go_wp2
 go_loopw [1,5] (fun m i wr=>∃(k:Nat),k≤n∧i= .int .i64 k∧m= .int .i64 (s+5*(k:Int))∧Own5 80 wr base g n cap (marked s ps n k)∧w.grownBy wr (some g)) (fun _ i _=>n-(intOf i).toNat)
 case atStart=>exact⟨0,by omega,rfl,by go_num,ho',World.grownBy.refl _ _⟩
 case round=>
  clear ho'
  obtain⟨k,hk,rfl,rfl,hown,hg⟩:=hrel
  by_cases t:k<n
  ·obtain⟨o0,q0⟩:=hown.set0 k (s+5*(k:Int))
   obtain⟨o1,q1⟩:=o0.set1 k (s+5*(k:Int)+1)
   obtain⟨o2,q2⟩:=o1.set2 k (s+5*(k:Int)+1+1)
   obtain⟨o3,q3⟩:=o2.set3 k (s+5*(k:Int)+1+1+1)
   obtain⟨o4,q4⟩:=o3.set4 k (s+5*(k:Int)+1+1+1+1)
   obtain⟨hd0,hd1,hd2,hd3,hd4⟩:=hown.at k (by rw[Own5.len hown];exact t)
   have hf0:=hown.free (k*5)
   have hf1:=hown.free (k*5+1)
   have hf2:=hown.free (k*5+2)
   have hf3:=hown.free (k*5+3)
   have hf4:=hown.free (k*5+4)
   rw[marked_step s ps n k hl t] at o4
   have HO:=zh o4
   have HG:=zh (grown_trans (grown_trans (grown_trans (grown_trans (grown_trans hg q0) q1) q2) q3) q4)
   clear hown hg o0 q0 o1 q1 o2 q2 o3 q3 o4 q4
   generalize (el5 (marked s ps n k) k).1=z0 at hd0
   generalize (el5 (marked s ps n k) k).2.1=z1 at hd1
   generalize (el5 (marked s ps n k) k).2.2.1=z2 at hd2
   generalize (el5 (marked s ps n k) k).2.2.2.1=z3 at hd3
   generalize (el5 (marked s ps n k) k).2.2.2.2=z4 at hd4
   have r1:IntKind.i64.wrap (s+5*(k:Int)+1)=s+5*(k:Int)+1:=by rw[IntKind.wrap_i64];omega
   have r2:IntKind.i64.wrap (s+5*(k:Int)+1+1)=s+5*(k:Int)+1+1:=by rw[IntKind.wrap_i64];omega
   have r3:IntKind.i64.wrap (s+5*(k:Int)+1+1+1)=s+5*(k:Int)+1+1+1:=by rw[IntKind.wrap_i64];omega
   have r4:IntKind.i64.wrap (s+5*(k:Int)+1+1+1+1)=s+5*(k:Int)+1+1+1+1:=by rw[IntKind.wrap_i64];omega
   have r5:IntKind.i64.wrap (s+5*(k:Int)+1+1+1+1+1)=s+5*(k:Int)+1+1+1+1+1:=by rw[IntKind.wrap_i64];omega
   go_wp2
   go_roundw
   case rel=>exact⟨k+1,by omega,by go_num,by go_num,zu HO,zu HG⟩
   case measure=>simp[intOf];omega
  ·obtain rfl:k=n:=by omega
   rw[marked_all s ps k hl] at hown
   have HO:=zh hown
   have HG:=zh hg
   clear hown hg
   go_wp2
   go_ret
   exact⟨rfl,zu HO,zu HG⟩
end LotHelp
namespace LotHeld
open Tup5
open LotHelp (marks marks_len marks_getD)
theorem heldS(w:World)(g n cap:Nat)(s:Int)(h20:n≤1048576)(s0:0≤s)(s1:s≤100000000)(h:At5 w g (marks s n)):
  Calls Tryz.prog 61 #[.slice (some ⟨g,0,none⟩) n cap,.int .i64 s] w fun e w'=>e= .returned (.int .i64 (s+5*(n:Int)))∧w'=w:=by
 go_enter Tryz.func61,Tryz.ntmps61
 go_wp2
 go_loop [1,5] (fun m i=>∃(k:Nat),k≤n∧i= .int .i64 k∧m= .int .i64 (s+5*(k:Int))) (fun _ i=>n-(intOf i).toNat)
 case atStart=>exact⟨0,by omega,rfl,by go_num⟩
 case round=>
  obtain⟨k,hk,rfl,rfl⟩:=hrel
  by_cases t:k<n
  ·obtain⟨e0,e1,e2,e3,e4⟩:=h k (by rw[marks_len];exact t)
   rw[marks_getD s n k t] at e0 e1 e2 e3 e4
   have e2:w.cell? ⟨g,k*5+2,none⟩=some (.int .i64 (s+5*(k:Int)+1+1)):=by rw[e2];simp;omega
   have e3:w.cell? ⟨g,k*5+3,none⟩=some (.int .i64 (s+5*(k:Int)+1+1+1)):=by rw[e3];simp;omega
   have e4:w.cell? ⟨g,k*5+4,none⟩=some (.int .i64 (s+5*(k:Int)+1+1+1+1)):=by rw[e4];simp;omega
   clear h
   go_wp2
   go_round
   case rel=>exact⟨k+1,by omega,by go_num,by go_num⟩
   case measure=>simp[intOf];omega
  ·obtain rfl:k=n:=by omega
   clear h
   go_wp2
   go_ret
   exact⟨rfl,rfl⟩
end LotHeld
namespace TradeHelp
open Tup8
theorem eq1(w:World)(x0 x1 x2 x3 x4 x5 x6 x7:Int):Calls Tryz.prog 86 #[.agg #[.int .i64 x0,.int .i64 x1,.int .i64 x2,.int .i64 x3,.int .i64 x4,.int .i64 x5,.int .i64 x6,.int .i64 x7],.agg #[.int .i64 x0,.int .i64 x1,.int .i64 x2,.int .i64 x3,.int .i64 x4,.int .i64 x5,.int .i64 x6,.int .i64 x7]] w fun e w'=>e= .returned (.bool true)∧w'=(w.alloc (.cells #[.int .i64 x0,.int .i64 x1,.int .i64 x2,.int .i64 x3,.int .i64 x4,.int .i64 x5,.int .i64 x6,.int .i64 x7] 82)).alloc (.cells #[.int .i64 x0,.int .i64 x1,.int .i64 x2,.int .i64 x3,.int .i64 x4,.int .i64 x5,.int .i64 x6,.int .i64 x7] 82):=by
 go_enter Tryz.func86,Tryz.ntmps86
 go_wp2
 go_ret
 exact⟨rfl,rfl⟩
theorem two_more(w:World)(o p:Obj):Below w.heap.size w ((w.alloc o).alloc p).drew:=(((Below.refl _ _).alloc (Nat.le_refl _) _).alloc (by simp) _).drew
theorem eqS(w:World)(g1 g2 n c1 c2:Nat)(ps:List T8)(hl:ps.length=n)(h20:n≤1048576)(l1:g1<w.heap.size)(l2:g2<w.heap.size)(h1:At8 w g1 ps)(h2:At8 w g2 ps):
  Calls Tryz.prog 50 #[.slice (some ⟨g1,0,none⟩) n c1,.slice (some ⟨g2,0,none⟩) n c2] w fun e w'=>e= .returned (.bool true)∧Below w.heap.size w w':=by
 go_enter Tryz.func50,Tryz.ntmps50
 go_wp2
 go_loopw [5] (fun i wr=>∃(k:Nat),k≤n∧i= .int .i64 k∧At8 wr g1 ps∧At8 wr g2 ps∧Below w.heap.size w wr) (fun i _=>n-(intOf i).toNat)
 case atStart=>exact⟨0,by omega,rfl,h1,h2,Below.refl _ _⟩
 case round=>
  clear h1 h2
  obtain⟨k,hk,rfl,h1,h2,hb⟩:=hrel
  by_cases t:k<n
  ·obtain⟨e0,e1,e2,e3,e4,e5,e6,e7⟩:=h1 k (by omega)
   obtain⟨f0,f1,f2,f3,f4,f5,f6,f7⟩:=h2 k (by omega)
   have s:=hb.size
   have H1:=zh h1
   have H2:=zh h2
   have HB:=zh hb
   clear h1 h2 hb
   generalize (el8 ps k).1=x0 at *
   generalize (el8 ps k).2.1=x1 at *
   generalize (el8 ps k).2.2.1=x2 at *
   generalize (el8 ps k).2.2.2.1=x3 at *
   generalize (el8 ps k).2.2.2.2.1=x4 at *
   generalize (el8 ps k).2.2.2.2.2.1=x5 at *
   generalize (el8 ps k).2.2.2.2.2.2.1=x6 at *
   generalize (el8 ps k).2.2.2.2.2.2.2=x7 at *
   go_wp2_with fail
   go_region_held3 (fun w'=>w'.cell? ⟨g1,k*8,none⟩=some (.int .i64 x0)∧w'.cell? ⟨g2,k*8,none⟩=some (.int .i64 x0)∧w'.cell? ⟨g1,k*8+1,none⟩=some (.int .i64 x1)∧w'.cell? ⟨g2,k*8+1,none⟩=some (.int .i64 x1)∧w'.cell? ⟨g1,k*8+2,none⟩=some (.int .i64 x2)∧w'.cell? ⟨g2,k*8+2,none⟩=some (.int .i64 x2)∧w'.cell? ⟨g1,k*8+3,none⟩=some (.int .i64 x3)∧w'.cell? ⟨g2,k*8+3,none⟩=some (.int .i64 x3)∧w'.cell? ⟨g1,k*8+4,none⟩=some (.int .i64 x4)∧w'.cell? ⟨g2,k*8+4,none⟩=some (.int .i64 x4)∧w'.cell? ⟨g1,k*8+5,none⟩=some (.int .i64 x5)∧w'.cell? ⟨g2,k*8+5,none⟩=some (.int .i64 x5)∧w'.cell? ⟨g1,k*8+6,none⟩=some (.int .i64 x6)∧w'.cell? ⟨g2,k*8+6,none⟩=some (.int .i64 x6)∧w'.cell? ⟨g1,k*8+7,none⟩=some (.int .i64 x7)∧w'.cell? ⟨g2,k*8+7,none⟩=some (.int .i64 x7)) (go_keep)
    (first|(go_at_call 86;refine(eq1 _ _ _ _ _ _ _ _ _).mono ?_;rintro e w2 ⟨rfl,rfl⟩))
   all_goals(go_wp2;go_roundw)
   all_goals first
    |(have b2:=two_more wr (.cells #[.int .i64 x0,.int .i64 x1,.int .i64 x2,.int .i64 x3,.int .i64 x4,.int .i64 x5,.int .i64 x6,.int .i64 x7] 82) (.cells #[.int .i64 x0,.int .i64 x1,.int .i64 x2,.int .i64 x3,.int .i64 x4,.int .i64 x5,.int .i64 x6,.int .i64 x7] 82)
      exact⟨k+1,by omega,by go_num,(zu H1).below b2 (by omega),(zu H2).below b2 (by omega),next (zu HB) b2⟩)
    |(simp[intOf];omega)
  ·have HB:=zh hb
   clear h1 h2 hb
   go_wp2
   go_ret
   exact⟨rfl,zu HB⟩
def marks(s:Int)(n:Nat):List T8:=(List.range n).map fun(i:Nat)=>(s+8*(i:Int),s+8*(i:Int)+1,s+8*(i:Int)+2,s+8*(i:Int)+3,s+8*(i:Int)+4,s+8*(i:Int)+5,s+8*(i:Int)+6,s+8*(i:Int)+7)
theorem marks_len(s:Int)(n:Nat):(marks s n).length=n:=by simp[marks]
theorem marks_getD(s:Int)(n i:Nat)(h:i<n):el8 (marks s n) i=(s+8*(i:Int),s+8*(i:Int)+1,s+8*(i:Int)+2,s+8*(i:Int)+3,s+8*(i:Int)+4,s+8*(i:Int)+5,s+8*(i:Int)+6,s+8*(i:Int)+7):=by simp[marks,List.getD,h]
def marked(s:Int)(ps:List T8)(n j:Nat):List T8:=(marks s n).take j++ps.drop j
theorem marked_zero(s:Int)(ps:List T8)(n:Nat):marked s ps n 0=ps:=by simp[marked]
theorem marked_all(s:Int)(ps:List T8)(n:Nat)(h:ps.length=n):marked s ps n n=marks s n:=by
 unfold marked
 rw[List.take_of_length_le (by rw[marks_len];exact Nat.le_refl _),List.drop_of_length_le (by omega),List.append_nil]
theorem marked_step(s:Int)(ps:List T8)(n j:Nat)(h:ps.length=n)(hj:j<n):((((((((marked s ps n j).modify j (fun p=>(s+8*(j:Int),p.2.1,p.2.2.1,p.2.2.2.1,p.2.2.2.2.1,p.2.2.2.2.2.1,p.2.2.2.2.2.2.1,p.2.2.2.2.2.2.2))).modify j (fun p=>(p.1,s+8*(j:Int)+1,p.2.2.1,p.2.2.2.1,p.2.2.2.2.1,p.2.2.2.2.2.1,p.2.2.2.2.2.2.1,p.2.2.2.2.2.2.2))).modify j (fun p=>(p.1,p.2.1,s+8*(j:Int)+1+1,p.2.2.2.1,p.2.2.2.2.1,p.2.2.2.2.2.1,p.2.2.2.2.2.2.1,p.2.2.2.2.2.2.2))).modify j (fun p=>(p.1,p.2.1,p.2.2.1,s+8*(j:Int)+1+1+1,p.2.2.2.2.1,p.2.2.2.2.2.1,p.2.2.2.2.2.2.1,p.2.2.2.2.2.2.2))).modify j (fun p=>(p.1,p.2.1,p.2.2.1,p.2.2.2.1,s+8*(j:Int)+1+1+1+1,p.2.2.2.2.2.1,p.2.2.2.2.2.2.1,p.2.2.2.2.2.2.2))).modify j (fun p=>(p.1,p.2.1,p.2.2.1,p.2.2.2.1,p.2.2.2.2.1,s+8*(j:Int)+1+1+1+1+1,p.2.2.2.2.2.2.1,p.2.2.2.2.2.2.2))).modify j (fun p=>(p.1,p.2.1,p.2.2.1,p.2.2.2.1,p.2.2.2.2.1,p.2.2.2.2.2.1,s+8*(j:Int)+1+1+1+1+1+1,p.2.2.2.2.2.2.2))).modify j (fun p=>(p.1,p.2.1,p.2.2.1,p.2.2.2.1,p.2.2.2.2.1,p.2.2.2.2.2.1,p.2.2.2.2.2.2.1,s+8*(j:Int)+1+1+1+1+1+1+1))=marked s ps n (j+1):=by
 unfold marked
 have l:=marks_len s n
 have g:=marks_getD s n j hj
 have l1:((marks s n).take j).length=j:=by simp;omega
 have l2:((marks s n).take (j+1)).length=j+1:=by simp;omega
 apply List.ext_getElem?
 intro i
 rw[List.getElem?_modify,List.getElem?_modify,List.getElem?_modify,List.getElem?_modify,List.getElem?_modify,List.getElem?_modify,List.getElem?_modify,List.getElem?_modify]
 by_cases e:j=i
 ·subst e
  rw[List.getElem?_append_right (by omega),List.getElem?_append_left (by omega),List.getElem?_take,if_pos (by omega),l1]
  have hg:(marks s n)[j]?=some (s+8*(j:Int),s+8*(j:Int)+1,s+8*(j:Int)+2,s+8*(j:Int)+3,s+8*(j:Int)+4,s+8*(j:Int)+5,s+8*(j:Int)+6,s+8*(j:Int)+7):=by
   rw[←g];simp[List.getD,l,hj]
  rw[hg]
  simp[List.getElem?_drop,h,hj]
  omega
 ·by_cases d:i<j
  ·rw[List.getElem?_append_left (by omega),List.getElem?_append_left (by omega),List.getElem?_take,List.getElem?_take,if_pos d,if_pos (by omega)]
   simp[e]
  ·rw[List.getElem?_append_right (by omega),List.getElem?_append_right (by omega),l1,l2]
   simp only[List.getElem?_drop]
   rw[show j+(i-j)=i by omega,show j+1+(i-(j+1))=i by omega]
   simp[e]
theorem markS(w:World)(base g n cap:Nat)(s:Int)(ps:List T8)(h20:n≤1048576)(s0:0≤s)(s1:s≤100000000)(ho:Own8 82 w base g n cap ps):
  Calls Tryz.prog 57 #[.slice (some ⟨g,0,none⟩) n cap,.int .i64 s] w fun e w'=>e= .returned (.int .i64 (s+8*(n:Int)))∧Own8 82 w' base g n cap (marks s n)∧w.grownBy w' (some g):=by
 have hl:=ho.len
 have ho':Own8 82 w base g n cap (marked s ps n 0):=by rw[marked_zero];exact ho
 clear ho
 go_enter Tryz.func57,Tryz.ntmps57
 go_wp2
 go_loopw [1,5] (fun m i wr=>∃(k:Nat),k≤n∧i= .int .i64 k∧m= .int .i64 (s+8*(k:Int))∧Own8 82 wr base g n cap (marked s ps n k)∧w.grownBy wr (some g)) (fun _ i _=>n-(intOf i).toNat)
 case atStart=>exact⟨0,by omega,rfl,by go_num,ho',World.grownBy.refl _ _⟩
 case round=>
  clear ho'
  obtain⟨k,hk,rfl,rfl,hown,hg⟩:=hrel
  by_cases t:k<n
  ·obtain⟨o0,q0⟩:=hown.set0 k (s+8*(k:Int))
   obtain⟨o1,q1⟩:=o0.set1 k (s+8*(k:Int)+1)
   obtain⟨o2,q2⟩:=o1.set2 k (s+8*(k:Int)+1+1)
   obtain⟨o3,q3⟩:=o2.set3 k (s+8*(k:Int)+1+1+1)
   obtain⟨o4,q4⟩:=o3.set4 k (s+8*(k:Int)+1+1+1+1)
   obtain⟨o5,q5⟩:=o4.set5 k (s+8*(k:Int)+1+1+1+1+1)
   obtain⟨o6,q6⟩:=o5.set6 k (s+8*(k:Int)+1+1+1+1+1+1)
   obtain⟨o7,q7⟩:=o6.set7 k (s+8*(k:Int)+1+1+1+1+1+1+1)
   obtain⟨hd0,hd1,hd2,hd3,hd4,hd5,hd6,hd7⟩:=hown.at k (by rw[Own8.len hown];exact t)
   have hf0:=hown.free (k*8)
   have hf1:=hown.free (k*8+1)
   have hf2:=hown.free (k*8+2)
   have hf3:=hown.free (k*8+3)
   have hf4:=hown.free (k*8+4)
   have hf5:=hown.free (k*8+5)
   have hf6:=hown.free (k*8+6)
   have hf7:=hown.free (k*8+7)
   rw[marked_step s ps n k hl t] at o7
   have HO:=zh o7
   have HG:=zh (grown_trans (grown_trans (grown_trans (grown_trans (grown_trans (grown_trans (grown_trans (grown_trans hg q0) q1) q2) q3) q4) q5) q6) q7)
   clear hown hg o0 q0 o1 q1 o2 q2 o3 q3 o4 q4 o5 q5 o6 q6 o7 q7
   generalize (el8 (marked s ps n k) k).1=z0 at hd0
   generalize (el8 (marked s ps n k) k).2.1=z1 at hd1
   generalize (el8 (marked s ps n k) k).2.2.1=z2 at hd2
   generalize (el8 (marked s ps n k) k).2.2.2.1=z3 at hd3
   generalize (el8 (marked s ps n k) k).2.2.2.2.1=z4 at hd4
   generalize (el8 (marked s ps n k) k).2.2.2.2.2.1=z5 at hd5
   generalize (el8 (marked s ps n k) k).2.2.2.2.2.2.1=z6 at hd6
   generalize (el8 (marked s ps n k) k).2.2.2.2.2.2.2=z7 at hd7
   have r1:IntKind.i64.wrap (s+8*(k:Int)+1)=s+8*(k:Int)+1:=by rw[IntKind.wrap_i64];omega
   have r2:IntKind.i64.wrap (s+8*(k:Int)+1+1)=s+8*(k:Int)+1+1:=by rw[IntKind.wrap_i64];omega
   have r3:IntKind.i64.wrap (s+8*(k:Int)+1+1+1)=s+8*(k:Int)+1+1+1:=by rw[IntKind.wrap_i64];omega
   have r4:IntKind.i64.wrap (s+8*(k:Int)+1+1+1+1)=s+8*(k:Int)+1+1+1+1:=by rw[IntKind.wrap_i64];omega
   have r5:IntKind.i64.wrap (s+8*(k:Int)+1+1+1+1+1)=s+8*(k:Int)+1+1+1+1+1:=by rw[IntKind.wrap_i64];omega
   have r6:IntKind.i64.wrap (s+8*(k:Int)+1+1+1+1+1+1)=s+8*(k:Int)+1+1+1+1+1+1:=by rw[IntKind.wrap_i64];omega
   have r7:IntKind.i64.wrap (s+8*(k:Int)+1+1+1+1+1+1+1)=s+8*(k:Int)+1+1+1+1+1+1+1:=by rw[IntKind.wrap_i64];omega
   have r8:IntKind.i64.wrap (s+8*(k:Int)+1+1+1+1+1+1+1+1)=s+8*(k:Int)+1+1+1+1+1+1+1+1:=by rw[IntKind.wrap_i64];omega
   go_wp2
   go_roundw
   case rel=>exact⟨k+1,by omega,by go_num,by go_num,zu HO,zu HG⟩
   case measure=>simp[intOf];omega
  ·obtain rfl:k=n:=by omega
   rw[marked_all s ps k hl] at hown
   have HO:=zh hown
   have HG:=zh hg
   clear hown hg
   go_wp2
   go_ret
   exact⟨rfl,zu HO,zu HG⟩
end TradeHelp
namespace TradeHeld
open Tup8
open TradeHelp (marks marks_len marks_getD)
theorem heldS(w:World)(g n cap:Nat)(s:Int)(h20:n≤1048576)(s0:0≤s)(s1:s≤100000000)(h:At8 w g (marks s n)):
  Calls Tryz.prog 62 #[.slice (some ⟨g,0,none⟩) n cap,.int .i64 s] w fun e w'=>e= .returned (.int .i64 (s+8*(n:Int)))∧w'=w:=by
 go_enter Tryz.func62,Tryz.ntmps62
 go_wp2
 go_loop [1,5] (fun m i=>∃(k:Nat),k≤n∧i= .int .i64 k∧m= .int .i64 (s+8*(k:Int))) (fun _ i=>n-(intOf i).toNat)
 case atStart=>exact⟨0,by omega,rfl,by go_num⟩
 case round=>
  obtain⟨k,hk,rfl,rfl⟩:=hrel
  by_cases t:k<n
  ·obtain⟨e0,e1,e2,e3,e4,e5,e6,e7⟩:=h k (by rw[marks_len];exact t)
   rw[marks_getD s n k t] at e0 e1 e2 e3 e4 e5 e6 e7
   have e2:w.cell? ⟨g,k*8+2,none⟩=some (.int .i64 (s+8*(k:Int)+1+1)):=by rw[e2];simp;omega
   have e3:w.cell? ⟨g,k*8+3,none⟩=some (.int .i64 (s+8*(k:Int)+1+1+1)):=by rw[e3];simp;omega
   have e4:w.cell? ⟨g,k*8+4,none⟩=some (.int .i64 (s+8*(k:Int)+1+1+1+1)):=by rw[e4];simp;omega
   have e5:w.cell? ⟨g,k*8+5,none⟩=some (.int .i64 (s+8*(k:Int)+1+1+1+1+1)):=by rw[e5];simp;omega
   have e6:w.cell? ⟨g,k*8+6,none⟩=some (.int .i64 (s+8*(k:Int)+1+1+1+1+1+1)):=by rw[e6];simp;omega
   have e7:w.cell? ⟨g,k*8+7,none⟩=some (.int .i64 (s+8*(k:Int)+1+1+1+1+1+1+1)):=by rw[e7];simp;omega
   clear h
   go_wp2
   go_round
   case rel=>exact⟨k+1,by omega,by go_num,by go_num⟩
   case measure=>simp[intOf];omega
  ·obtain rfl:k=n:=by omega
   clear h
   go_wp2
   go_ret
   exact⟨rfl,rfl⟩
end TradeHeld
end Go.Proofs.YtagmnociflkhcaaGreatDoor
