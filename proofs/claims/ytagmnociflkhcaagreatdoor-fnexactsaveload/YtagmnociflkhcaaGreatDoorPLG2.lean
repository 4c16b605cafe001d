/- Texts of one proof, one behind the other: BalHeld, LotHelp, LotHeld, TradeHelp, TradeHeld, BHelp, LotApp, SSplit, BMemV13, BkEq, SRead13L, VB13, ByteH, VOB, SBytes, LawR13, Fil14, OpensF14, DiskH14, HelpF14, MarkF14, MarkFS14, DkH14, SDk14, SOk14, SRd14, App14, SLess14, SCom14, Law14, Bx16, LoadH16, LawX16, SPut11, SPuts11, SGets11. -/
import Derived.Test.YtagmnociflkhcaaGreatDoorRows
import Derived.Test.YtagmnociflkhcaaGreatDoorCards
import Derived.Test.YtagmnociflkhcaaGreatDoorTie
import Derived.Test.YtagmnociflkhcaaGreatDoorPLG1
import Derived.Deep.RegionHeld3
import Derived.Maps.AppendAt
import Derived.WalkKit
import Derived.ProofKit
import Derived.OpenShut
import Derived.Below
import Derived.BigQuiet
import Derived.Deep.Slices
import Derived.Deep.Strs
import Derived.ChangeSlices
import Derived.Laws.BytesArg
import Derived.Laws.Concat
set_option linter.unusedVariables false
set_option linter.unusedSimpArgs false
open Go.ChangeShapes Go.WideShapes Go.ChangeAt Go.RowKit
set_option maxRecDepth 100000
set_option maxHeartbeats 32000000
namespace Go.Proofs.YtagmnociflkhcaaGreatDoor
namespace BalHeld
open Triples
open BalHelp (marks marks_len marks_getD)
theorem heldS(w:World)(g n cap:Nat)(s:Int)(h20:n≤1048576)(s0:0≤s)(s1:s≤100000000)(h:At3 w g (marks s n)):
  Calls Tryz.prog 60 #[.slice (some ⟨g,0,none⟩) n cap,.int .i64 s] w fun e w'=>e= .returned (.int .i64 (s+3*(n:Int)))∧w'=w:=by
 go_enter Tryz.func60,Tryz.ntmps60
 go_wp2
 go_loop [1,5] (fun m i=>∃(k:Nat),k≤n∧i= .int .i64 k∧m= .int .i64 (s+3*(k:Int))) (fun _ i=>n-(intOf i).toNat)
 case atStart=>exact⟨0,by omega,rfl,by go_num⟩
 case round=>
  obtain⟨k,hk,rfl,rfl⟩:=hrel
  by_cases t:k<n
  ·obtain⟨e0,e1,e2⟩:=h k (by rw[marks_len];exact t)
   rw[marks_getD s n k t] at e0 e1 e2
   have e2:w.cell? ⟨g,k*3+2,none⟩=some (.int .i64 (s+3*(k:Int)+1+1)):=by rw[e2];simp;omega
   clear h
   go_wp2
   go_round
   case rel=>exact⟨k+1,by omega,by go_num,by go_num⟩
   case measure=>simp[intOf];omega
  ·obtain rfl:k=n:=by omega
   clear h
   go_wp2
   go_ret
   exact⟨rfl,rfl⟩
end BalHeld
namespace LotHelp
open Tup5
theorem eq1(w:World)(x0 x1 x2 x3 x4:Int):Calls Tryz.prog 85 #[.agg #[.int .i64 x0,.int .i64 x1,.int .i64 x2,.int .i64 x3,.int .i64 x4],.agg #[.int .i64 x0,.int .i64 x1,.int .i64 x2,.int .i64 x3,.int .i64 x4]] w fun e w'=>e= .returned (.bool true)∧w'=(w.alloc (.cells #[.int .i64 x0,.int .i64 x1,.int .i64 x2,.int .i64 x3,.int .i64 x4] 80)).alloc (.cells #[.int .i64 x0,.int .i64 x1,.int .i64 x2,.int .i64 x3,.int .i64 x4] 80):=by
 go_enter Tryz.func85,Tryz.ntmps85
 go_wp2
 go_ret
 exact⟨rfl,rfl⟩
theorem two_more(w:World)(o p:Obj):Below w.heap.size w ((w.alloc o).alloc p).drew:=(((Below.refl _ _).alloc (Nat.le_refl _) _).alloc (by simp) _).drew
theorem eqS(w:World)(g1 g2 n c1 c2:Nat)(ps:List T5)(hl:ps.length=n)(h20:n≤1048576)(l1:g1<w.heap.size)(l2:g2<w.heap.size)(h1:At5 w g1 ps)(h2:At5 w g2 ps):
  Calls Tryz.prog 49 #[.slice (some ⟨g1,0,none⟩) n c1,.slice (some ⟨g2,0,none⟩) n c2] w fun e w'=>e= .returned (.bool true)∧Below w.heap.size w w':=by
 go_enter Tryz.func49,Tryz.ntmps49
 go_wp2
 go_loopw [5] (fun i wr=>∃(k:Nat),k≤n∧i= .int .i64 k∧At5 wr g1 ps∧At5 wr g2 ps∧Below w.heap.size w wr) (fun i _=>n-(intOf i).toNat)
 case atStart=>exact⟨0,by omega,rfl,h1,h2,Below.refl _ _⟩
 case round=>
  clear h1 h2
  obtain⟨k,hk,rfl,h1,h2,hb⟩:=hrel
  by_cases t:k<n
  ·obtain⟨e0,e1,e2,e3,e4⟩:=h1 k (by omega)
   obtain⟨f0,f1,f2,f3,f4⟩:=h2 k (by omega)
   have s:=hb.size
   have H1:=zh h1
   have H2:=zh h2
   have HB:=zh hb
   clear h1 h2 hb
   generalize (el5 ps k).1=x0 at *
   generalize (el5 ps k).2.1=x1 at *
   generalize (el5 ps k).2.2.1=x2 at *
   generalize (el5 ps k).2.2.2.1=x3 at *
   generalize (el5 ps k).2.2.2.2=x4 at *
   go_wp2_with fail
   go_region_held3 (fun w'=>w'.cell? ⟨g1,k*5,none⟩=some (.int .i64 x0)∧w'.cell? ⟨g2,k*5,none⟩=some (.int .i64 x0)∧w'.cell? ⟨g1,k*5+1,none⟩=some (.int .i64 x1)∧w'.cell? ⟨g2,k*5+1,none⟩=some (.int .i64 x1)∧w'.cell? ⟨g1,k*5+2,none⟩=some (.int .i64 x2)∧w'.cell? ⟨g2,k*5+2,none⟩=some (.int .i64 x2)∧w'.cell? ⟨g1,k*5+3,none⟩=some (.int .i64 x3)∧w'.cell? ⟨g2,k*5+3,none⟩=some (.int .i64 x3)∧w'.cell? ⟨g1,k*5+4,none⟩=some (.int .i64 x4)∧w'.cell? ⟨g2,k*5+4,none⟩=some (.int .i64 x4)) (go_keep)
    (first|(go_at_call 85;refine(eq1 _ _ _ _ _ _).mono ?_;rintro e w2 ⟨rfl,rfl⟩))
   all_goals(go_wp2;go_roundw)
   all_goals first
    |(have b2:=two_more wr (.cells #[.int .i64 x0,.int .i64 x1,.int .i64 x2,.int .i64 x3,.int .i64 x4] 80) (.cells #[.int .i64 x0,.int .i64 x1,.int .i64 x2,.int .i64 x3,.int .i64 x4] 80)
      exact⟨k+1,by omega,by go_num,(zu H1).below b2 (by omega),(zu H2).below b2 (by omega),next (zu HB) b2⟩)
    |(simp[intOf];omega)
  ·have HB:=zh hb
   clear h1 h2 hb
   go_wp2
   go_ret
   exact⟨rfl,zu HB⟩
def marks(s:Int)(n:Nat):List T5:=(List.range n).map fun(i:Nat)=>(s+5*(i:Int),s+5*(i:Int)+1,s+5*(i:Int)+2,s+5*(i:Int)+3,s+5*(i:Int)+4)
theorem marks_len(s:Int)(n:Nat):(marks s n).length=n:=by simp[marks]
theorem marks_getD(s:Int)(n i:Nat)(h:i<n):el5 (marks s n) i=(s+5*(i:Int),s+5*(i:Int)+1,s+5*(i:Int)+2,s+5*(i:Int)+3,s+5*(i:Int)+4):=by simp[marks,List.getD,h]
def marked(s:Int)(ps:List T5)(n j:Nat):List T5:=(marks s n).take j++ps.drop j
theorem marked_zero(s:Int)(ps:List T5)(n:Nat):marked s ps n 0=ps:=by simp[marked]
theorem marked_all(s:Int)(ps:List T5)(n:Nat)(h:ps.length=n):marked s ps n n=marks s n:=by
 unfold marked
 rw[List.take_of_length_le (by rw[marks_len];exact Nat.le_refl _),List.drop_of_length_le (by omega),List.append_nil]
theorem marked_step(s:Int)(ps:List T5)(n j:Nat)(h:ps.length=n)(hj:j<n):(((((marked s ps n j).modify j (fun p=>(s+5*(j:Int),p.2.1,p.2.2.1,p.2.2.2.1,p.2.2.2.2))).modify j (fun p=>(p.1,s+5*(j:Int)+1,p.2.2.1,p.2.2.2.1,p.2.2.2.2))).modify j (fun p=>(p.1,p.2.1,s+5*(j:Int)+1+1,p.2.2.2.1,p.2.2.2.2))).modify j (fun p=>(p.1,p.2.1,p.2.2.1,s+5*(j:Int)+1+1+1,p.2.2.2.2))).modify j (fun p=>(p.1,p.2.1,p.2.2.1,p.2.2.2.1,s+5*(j:Int)+1+1+1+1))=marked s ps n (j+1):=by
 unfold marked
 have l:=marks_len s n
 have g:=marks_getD s n j hj
 have l1:((marks s n).take j).length=j:=by simp;omega
 have l2:((marks s n).take (j+1)).length=j+1:=by simp;omega
 apply List.ext_getElem?
 intro i
 rw[List.getElem?_modify,List.getElem?_modify,List.getElem?_modify,List.getElem?_modify,List.getElem?_modify]
 by_cases e:j=i
 ·subst e
  rw[List.getElem?_append_right (by omega),List.getElem?_append_left (by omega),List.getElem?_take,if_pos (by omega),l1]
  have hg:(marks s n)[j]?=some (s+5*(j:Int),s+5*(j:Int)+1,s+5*(j:Int)+2,s+5*(j:Int)+3,s+5*(j:Int)+4):=by
   rw[←g];simp[List.getD,l,hj]
  rw[hg]
  simp[List.getElem?_drop,h,hj]
  omega
 ·by_cases d:i<j
  ·rw[List.getElem?_append_left (by omega),List.getElem?_append_left (by omega),List.getElem?_take,List.getElem?_take,if_pos d,if_pos (by omega)]
   simp[e]
  ·rw[List.getElem?_append_right (by omega),List.getElem?_append_right (by omega),l1,l2]
   simp only[List.getElem?_drop]
   rw[show j+(i-j)=i by omega,show j+1+(i-(j+1))=i by omega]
   simp[e]
theorem markS(w:World)(base g n cap:Nat)(s:Int)(ps:List T5)(h20:n≤1048576)(s0:0≤s)(s1:s≤100000000)(ho:Own5 80 w base g n cap ps):
  Calls Tryz.prog 56 #[.slice (some ⟨g,0,none⟩) n cap,.int .i64 s] w fun e w'=>e= .returned (.int .i64 (s+5*(n:Int)))∧Own5 80 w' base g n cap (marks s n)∧w.grownBy w' (some g):=by
 have hl:=ho.len
 have ho':Own5 80 w base g n cap (marked s ps n 0):=by rw[marked_zero];exact ho
 clear ho
 go_enter Tryz.func56,Tryz.ntmps56
 go_wp2
 go_loopw [1,5] (fun m i wr=>∃(k:Nat),k≤n∧i= .int .i64 k∧m= .int .i64 (s+5*(k:Int))∧Own5 80 wr base g n cap (marked s ps n k)∧w.grownBy wr (some g)) (fun _ i _=>n-(intOf i).toNat)
 case atStart=>exact⟨0,by omega,rfl,by go_num,ho',World.grownBy.refl _ _⟩
 case round=>
  clear ho'
  obtain⟨k,hk,rfl,rfl,hown,hg⟩:=hrel
  by_cases t:k<n
  ·obtain⟨o0,q0⟩:=hown.set0 k (s+5*(k:Int))
   obtain⟨o1,q1⟩:=o0.set1 k (s+5*(k:Int)+1)
   obtain⟨o2,q2⟩:=o1.set2 k (s+5*(k:Int)+1+1)
   obtain⟨o3,q3⟩:=o2.set3 k (s+5*(k:Int)+1+1+1)
   obtain⟨o4,q4⟩:=o3.set4 k (s+5*(k:Int)+1+1+1+1)
   obtain⟨hd0,hd1,hd2,hd3,hd4⟩:=hown.at k (by rw[Own5.len hown];exact t)
   have hf0:=hown.free (k*5)
   have hf1:=hown.free (k*5+1)
   have hf2:=hown.free (k*5+2)
   have hf3:=hown.free (k*5+3)
   have hf4:=hown.free (k*5+4)
   rw[marked_step s ps n k hl t] at o4
   have HO:=zh o4
   have HG:=zh (grown_trans (grown_trans (grown_trans (grown_trans (grown_trans hg q0) q1) q2) q3) q4)
   clear hown hg o0 q0 o1 q1 o2 q2 o3 q3 o4 q4
   generalize (el5 (marked s ps n k) k).1=z0 at hd0
   generalize (el5 (marked s ps n k) k).2.1=z1 at hd1
   generalize (el5 (marked s ps n k) k).2.2.1=z2 at hd2
   generalize (el5 (marked s ps n k) k).2.2.2.1=z3 at hd3
   generalize (el5 (marked s ps n k) k).2.2.2.2=z4 at hd4
   have r1:IntKind.i64.wrap (s+5*(k:Int)+1)=s+5*(k:Int)+1:=by rw[IntKind.wrap_i64];omega
   have r2:IntKind.i64.wrap (s+5*(k:Int)+1+1)=s+5*(k:Int)+1+1:=by rw[IntKind.wrap_i64];omega
   have r3:IntKind.i64.wrap (s+5*(k:Int)+1+1+1)=s+5*(k:Int)+1+1+1:=by rw[IntKind.wrap_i64];omega
   have r4:IntKind.i64.wrap (s+5*(k:Int)+1+1+1+1)=s+5*(k:Int)+1+1+1+1:=by rw[IntKind.wrap_i64];omega
   have r5:IntKind.i64.wrap (s+5*(k:Int)+1+1+1+1+1)=s+5*(k:Int)+1+1+1+1+1:=by rw[IntKind.wrap_i64];omega
   go_wp2
   go_roundw
   case rel=>exact⟨k+1,by omega,by go_num,by go_num,zu HO,zu HG⟩
   case measure=>simp[intOf];omega
  ·obtain rfl:k=n:=by omega
   rw[marked_all s ps k hl] at hown
   have HO:=zh hown
   have HG:=zh hg
   clear hown hg
   go_wp2
   go_ret
   exact⟨rfl,zu HO,zu HG⟩
end LotHelp
namespace LotHeld
open Tup5
open LotHelp (marks marks_len marks_getD)
theorem heldS(w:World)(g n cap:Nat)(s:Int)(h20:n≤1048576)(s0:0≤s)(s1:s≤100000000)(h:At5 w g (marks s n)):
  Calls Tryz.prog 61 #[.slice (some ⟨g,0,none⟩) n cap,.int .i64 s] w fun e w'=>e= .returned (.int .i64 (s+5*(n:Int)))∧w'=w:=by
 go_enter Tryz.func61,Tryz.ntmps61
 go_wp2
 go_loop [1,5] (fun m i=>∃(k:Nat),k≤n∧i= .int .i64 k∧m= .int .i64 (s+5*(k:Int))) (fun _ i=>n-(intOf i).toNat)
 case atStart=>exact⟨0,by omega,rfl,by go_num⟩
 case round=>
  obtain⟨k,hk,rfl,rfl⟩:=hrel
  by_cases t:k<n
  ·obtain⟨e0,e1,e2,e3,e4⟩:=h k (by rw[marks_len];exact t)
   rw[marks_getD s n k t] at e0 e1 e2 e3 e4
   have e2:w.cell? ⟨g,k*5+2,none⟩=some (.int .i64 (s+5*(k:Int)+1+1)):=by rw[e2];simp;omega
   have e3:w.cell? ⟨g,k*5+3,none⟩=some (.int .i64 (s+5*(k:Int)+1+1+1)):=by rw[e3];simp;omega
   have e4:w.cell? ⟨g,k*5+4,none⟩=some (.int .i64 (s+5*(k:Int)+1+1+1+1)):=by rw[e4];simp;omega
   clear h
   go_wp2
   go_round
   case rel=>exact⟨k+1,by omega,by go_num,by go_num⟩
   case measure=>simp[intOf];omega
  ·obtain rfl:k=n:=by omega
   clear h
   go_wp2
   go_ret
   exact⟨rfl,rfl⟩
end LotHeld
namespace TradeHelp
open Tup8
theorem eq1(w:World)(x0 x1 x2 x3 x4 x5 x6 x7:Int):Calls Tryz.prog 86 #[.agg #[.int .i64 x0,.int .i64 x1,.int .i64 x2,.int .i64 x3,.int .i64 x4,.int .i64 x5,.int .i64 x6,.int .i64 x7],.agg #[.int .i64 x0,.int .i64 x1,.int .i64 x2,.int .i64 x3,.int .i64 x4,.int .i64 x5,.int .i64 x6,.int .i64 x7]] w fun e w'=>e= .returned (.bool true)∧w'=(w.alloc (.cells #[.int .i64 x0,.int .i64 x1,.int .i64 x2,.int .i64 x3,.int .i64 x4,.int .i64 x5,.int .i64 x6,.int .i64 x7] 82)).alloc (.cells #[.int .i64 x0,.int .i64 x1,.int .i64 x2,.int .i64 x3,.int .i64 x4,.int .i64 x5,.int .i64 x6,.int .i64 x7] 82):=by
 go_enter Tryz.func86,Tryz.ntmps86
 go_wp2
 go_ret
 exact⟨rfl,rfl⟩
theorem two_more(w:World)(o p:Obj):Below w.heap.size w ((w.alloc o).alloc p).drew:=(((Below.refl _ _).alloc (Nat.le_refl _) _).alloc (by simp) _).drew
theorem eqS(w:World)(g1 g2 n c1 c2:Nat)(ps:List T8)(hl:ps.length=n)(h20:n≤1048576)(l1:g1<w.heap.size)(l2:g2<w.heap.size)(h1:At8 w g1 ps)(h2:At8 w g2 ps):
  Calls Tryz.prog 50 #[.slice (some ⟨g1,0,none⟩) n c1,.slice (some ⟨g2,0,none⟩) n c2] w fun e w'=>e= .returned (.bool true)∧Below w.heap.size w w':=by
 go_enter Tryz.func50,Tryz.ntmps50
 go_wp2
 go_loopw [5] (fun i wr=>∃(k:Nat),k≤n∧i= .int .i64 k∧At8 wr g1 ps∧At8 wr g2 ps∧Below w.heap.size w wr) (fun i _=>n-(intOf i).toNat)
 case atStart=>exact⟨0,by omega,rfl,h1,h2,Below.refl _ _⟩
 case round=>
  clear h1 h2
  obtain⟨k,hk,rfl,h1,h2,hb⟩:=hrel
  by_cases t:k<n
  ·obtain⟨e0,e1,e2,e3,e4,e5,e6,e7⟩:=h1 k (by omega)
   obtain⟨f0,f1,f2,f3,f4,f5,f6,f7⟩:=h2 k (by omega)
   have s:=hb.size
   have H1:=zh h1
   have H2:=zh h2
   have HB:=zh hb
   clear h1 h2 hb
   generalize (el8 ps k).1=x0 at *
   generalize (el8 ps k).2.1=x1 at *
   generalize (el8 ps k).2.2.1=x2 at *
   generalize (el8 ps k).2.2.2.1=x3 at *
   generalize (el8 ps k).2.2.2.2.1=x4 at *
   generalize (el8 ps k).2.2.2.2.2.1=x5 at *
   generalize (el8 ps k).2.2.2.2.2.2.1=x6 at *
   generalize (el8 ps k).2.2.2.2.2.2.2=x7 at *
   go_wp2_with fail
   go_region_held3 (fun w'=>w'.cell? ⟨g1,k*8,none⟩=some (.int .i64 x0)∧w'.cell? ⟨g2,k*8,none⟩=some (.int .i64 x0)∧w'.cell? ⟨g1,k*8+1,none⟩=some (.int .i64 x1)∧w'.cell? ⟨g2,k*8+1,none⟩=some (.int .i64 x1)∧w'.cell? ⟨g1,k*8+2,none⟩=some (.int .i64 x2)∧w'.cell? ⟨g2,k*8+2,none⟩=some (.int .i64 x2)∧w'.cell? ⟨g1,k*8+3,none⟩=some (.int .i64 x3)∧w'.cell? ⟨g2,k*8+3,none⟩=some (.int .i64 x3)∧w'.cell? ⟨g1,k*8+4,none⟩=some (.int .i64 x4)∧w'.cell? ⟨g2,k*8+4,none⟩=some (.int .i64 x4)∧w'.cell? ⟨g1,k*8+5,none⟩=some (.int .i64 x5)∧w'.cell? ⟨g2,k*8+5,none⟩=some (.int .i64 x5)∧w'.cell? ⟨g1,k*8+6,none⟩=some (.int .i64 x6)∧w'.cell? ⟨g2,k*8+6,none⟩=some (.int .i64 x6)∧w'.cell? ⟨g1,k*8+7,none⟩=some (.int .i64 x7)∧w'.cell? ⟨g2,k*8+7,none⟩=some (.int .i64 x7)) (go_keep)
    (first|(go_at_call 86;refine(eq1 _ _ _ _ _ _ _ _ _).mono ?_;rintro e w2 ⟨rfl,rfl⟩))
   all_goals(go_wp2;go_roundw)
   all_goals first
    |(have b2:=two_more wr (.cells #[.int .i64 x0,.int .i64 x1,.int .i64 x2,.int .i64 x3,.int .i64 x4,.int .i64 x5,.int .i64 x6,.int .i64 x7] 82) (.cells #[.int .i64 x0,.int .i64 x1,.int .i64 x2,.int .i64 x3,.int .i64 x4,.int .i64 x5,.int .i64 x6,.int .i64 x7] 82)
      exact⟨k+1,by omega,by go_num,(zu H1).below b2 (by omega),(zu H2).below b2 (by omega),next (zu HB) b2⟩)
    |(simp[intOf];omega)
  ·have HB:=zh hb
   clear h1 h2 hb
   go_wp2
   go_ret
   exact⟨rfl,zu HB⟩
def marks(s:Int)(n:Nat):List T8:=(List.range n).map fun(i:Nat)=>(s+8*(i:Int),s+8*(i:Int)+1,s+8*(i:Int)+2,s+8*(i:Int)+3,s+8*(i:Int)+4,s+8*(i:Int)+5,s+8*(i:Int)+6,s+8*(i:Int)+7)
theorem marks_len(s:Int)(n:Nat):(marks s n).length=n:=by simp[marks]
theorem marks_getD(s:Int)(n i:Nat)(h:i<n):el8 (marks s n) i=(s+8*(i:Int),s+8*(i:Int)+1,s+8*(i:Int)+2,s+8*(i:Int)+3,s+8*(i:Int)+4,s+8*(i:Int)+5,s+8*(i:Int)+6,s+8*(i:Int)+7):=by simp[marks,List.getD,h]
def marked(s:Int)(ps:List T8)(n j:Nat):List T8:=(marks s n).take j++ps.drop j
theorem marked_zero(s:Int)(ps:List T8)(n:Nat):marked s ps n 0=ps:=by simp[marked]
theorem marked_all(s:Int)(ps:List T8)(n:Nat)(h:ps.length=n):marked s ps n n=marks s n:=by
 unfold marked
 rw[List.take_of_length_le (by rw[marks_len];exact Nat.le_refl _),List.drop_of_length_le (by omega),List.append_nil]
theorem marked_step(s:Int)(ps:List T8)(n j:Nat)(h:ps.length=n)(hj:j<n):((((((((marked s ps n j).modify j (fun p=>(s+8*(j:Int),p.2.1,p.2.2.1,p.2.2.2.1,p.2.2.2.2.1,p.2.2.2.2.2.1,p.2.2.2.2.2.2.1,p.2.2.2.2.2.2.2))).modify j (fun p=>(p.1,s+8*(j:Int)+1,p.2.2.1,p.2.2.2.1,p.2.2.2.2.1,p.2.2.2.2.2.1,p.2.2.2.2.2.2.1,p.2.2.2.2.2.2.2))).modify j (fun p=>(p.1,p.2.1,s+8*(j:Int)+1+1,p.2.2.2.1,p.2.2.2.2.1,p.2.2.2.2.2.1,p.2.2.2.2.2.2.1,p.2.2.2.2.2.2.2))).modify j (fun p=>(p.1,p.2.1,p.2.2.1,s+8*(j:Int)+1+1+1,p.2.2.2.2.1,p.2.2.2.2.2.1,p.2.2.2.2.2.2.1,p.2.2.2.2.2.2.2))).modify j (fun p=>(p.1,p.2.1,p.2.2.1,p.2.2.2.1,s+8*(j:Int)+1+1+1+1,p.2.2.2.2.2.1,p.2.2.2.2.2.2.1,p.2.2.2.2.2.2.2))).modify j (fun p=>(p.1,p.2.1,p.2.2.1,p.2.2.2.1,p.2.2.2.2.1,s+8*(j:Int)+1+1+1+1+1,p.2.2.2.2.2.2.1,p.2.2.2.2.2.2.2))).modify j (fun p=>(p.1,p.2.1,p.2.2.1,p.2.2.2.1,p.2.2.2.2.1,p.2.2.2.2.2.1,s+8*(j:Int)+1+1+1+1+1+1,p.2.2.2.2.2.2.2))).modify j (fun p=>(p.1,p.2.1,p.2.2.1,p.2.2.2.1,p.2.2.2.2.1,p.2.2.2.2.2.1,p.2.2.2.2.2.2.1,s+8*(j:Int)+1+1+1+1+1+1+1))=marked s ps n (j+1):=by
 unfold marked
 have l:=marks_len s n
 have g:=marks_getD s n j hj
 have l1:((marks s n).take j).length=j:=by simp;omega
 have l2:((marks s n).take (j+1)).length=j+1:=by simp;omega
 apply List.ext_getElem?
 intro i
 rw[List.getElem?_modify,List.getElem?_modify,List.getElem?_modify,List.getElem?_modify,List.getElem?_modify,List.getElem?_modify,List.getElem?_modify,List.getElem?_modify]
 by_cases e:j=i
 ·subst e
  rw[List.getElem?_append_right (by omega),List.getElem?_append_left (by omega),List.getElem?_take,if_pos (by omega),l1]
  have hg:(marks s n)[j]?=some (s+8*(j:Int),s+8*(j:Int)+1,s+8*(j:Int)+2,s+8*(j:Int)+3,s+8*(j:Int)+4,s+8*(j:Int)+5,s+8*(j:Int)+6,s+8*(j:Int)+7):=by
   rw[←g];simp[List.getD,l,hj]
  rw[hg]
  simp[List.getElem?_drop,h,hj]
  omega
 ·by_cases d:i<j
  ·rw[List.getElem?_append_left (by omega),List.getElem?_append_left (by omega),List.getElem?_take,List.getElem?_take,if_pos d,if_pos (by omega)]
   simp[e]
  ·rw[List.getElem?_append_right (by omega),List.getElem?_append_right (by omega),l1,l2]
   simp only[List.getElem?_drop]
   rw[show j+(i-j)=i by omega,show j+1+(i-(j+1))=i by omega]
   simp[e]
theorem markS(w:World)(base g n cap:Nat)(s:Int)(ps:List T8)(h20:n≤1048576)(s0:0≤s)(s1:s≤100000000)(ho:Own8 82 w base g n cap ps):
  Calls Tryz.prog 57 #[.slice (some ⟨g,0,none⟩) n cap,.int .i64 s] w fun e w'=>e= .returned (.int .i64 (s+8*(n:Int)))∧Own8 82 w' base g n cap (marks s n)∧w.grownBy w' (some g):=by
 have hl:=ho.len
 have ho':Own8 82 w base g n cap (marked s ps n 0):=by rw[marked_zero];exact ho
 clear ho
 go_enter Tryz.func57,Tryz.ntmps57
 go_wp2
 go_loopw [1,5] (fun m i wr=>∃(k:Nat),k≤n∧i= .int .i64 k∧m= .int .i64 (s+8*(k:Int))∧Own8 82 wr base g n cap (marked s ps n k)∧w.grownBy wr (some g)) (fun _ i _=>n-(intOf i).toNat)
 case atStart=>exact⟨0,by omega,rfl,by go_num,ho',World.grownBy.refl _ _⟩
 case round=>
  clear ho'
  obtain⟨k,hk,rfl,rfl,hown,hg⟩:=hrel
  by_cases t:k<n
  ·obtain⟨o0,q0⟩:=hown.set0 k (s+8*(k:Int))
   obtain⟨o1,q1⟩:=o0.set1 k (s+8*(k:Int)+1)
   obtain⟨o2,q2⟩:=o1.set2 k (s+8*(k:Int)+1+1)
   obtain⟨o3,q3⟩:=o2.set3 k (s+8*(k:Int)+1+1+1)
   obtain⟨o4,q4⟩:=o3.set4 k (s+8*(k:Int)+1+1+1+1)
   obtain⟨o5,q5⟩:=o4.set5 k (s+8*(k:Int)+1+1+1+1+1)
   obtain⟨o6,q6⟩:=o5.set6 k (s+8*(k:Int)+1+1+1+1+1+1)
   obtain⟨o7,q7⟩:=o6.set7 k (s+8*(k:Int)+1+1+1+1+1+1+1)
   obtain⟨hd0,hd1,hd2,hd3,hd4,hd5,hd6,hd7⟩:=hown.at k (by rw[Own8.len hown];exact t)
   have hf0:=hown.free (k*8)
   have hf1:=hown.free (k*8+1)
   have hf2:=hown.free (k*8+2)
   have hf3:=hown.free (k*8+3)
   have hf4:=hown.free (k*8+4)
   have hf5:=hown.free (k*8+5)
   have hf6:=hown.free (k*8+6)
   have hf7:=hown.free (k*8+7)
   rw[marked_step s ps n k hl t] at o7
   have HO:=zh o7
   have HG:=zh (grown_trans (grown_trans (grown_trans (grown_trans (grown_trans (grown_trans (grown_trans (grown_trans hg q0) q1) q2) q3) q4) q5) q6) q7)
   clear hown hg o0 q0 o1 q1 o2 q2 o3 q3 o4 q4 o5 q5 o6 q6 o7 q7
   generalize (el8 (marked s ps n k) k).1=z0 at hd0
   generalize (el8 (marked s ps n k) k).2.1=z1 at hd1
   generalize (el8 (marked s ps n k) k).2.2.1=z2 at hd2
   generalize (el8 (marked s ps n k) k).2.2.2.1=z3 at hd3
   generalize (el8 (marked s ps n k) k).2.2.2.2.1=z4 at hd4
   generalize (el8 (marked s ps n k) k).2.2.2.2.2.1=z5 at hd5
   generalize (el8 (marked s ps n k) k).2.2.2.2.2.2.1=z6 at hd6
   generalize (el8 (marked s ps n k) k).2.2.2.2.2.2.2=z7 at hd7
   have r1:IntKind.i64.wrap (s+8*(k:Int)+1)=s+8*(k:Int)+1:=by rw[IntKind.wrap_i64];omega
   have r2:IntKind.i64.wrap (s+8*(k:Int)+1+1)=s+8*(k:Int)+1+1:=by rw[IntKind.wrap_i64];omega
   have r3:IntKind.i64.wrap (s+8*(k:Int)+1+1+1)=s+8*(k:Int)+1+1+1:=by rw[IntKind.wrap_i64];omega
   have r4:IntKind.i64.wrap (s+8*(k:Int)+1+1+1+1)=s+8*(k:Int)+1+1+1+1:=by rw[IntKind.wrap_i64];omega
   have r5:IntKind.i64.wrap (s+8*(k:Int)+1+1+1+1+1)=s+8*(k:Int)+1+1+1+1+1:=by rw[IntKind.wrap_i64];omega
   have r6:IntKind.i64.wrap (s+8*(k:Int)+1+1+1+1+1+1)=s+8*(k:Int)+1+1+1+1+1+1:=by rw[IntKind.wrap_i64];omega
   have r7:IntKind.i64.wrap (s+8*(k:Int)+1+1+1+1+1+1+1)=s+8*(k:Int)+1+1+1+1+1+1+1:=by rw[IntKind.wrap_i64];omega
   have r8:IntKind.i64.wrap (s+8*(k:Int)+1+1+1+1+1+1+1+1)=s+8*(k:Int)+1+1+1+1+1+1+1+1:=by rw[IntKind.wrap_i64];omega
   go_wp2
   go_roundw
   case rel=>exact⟨k+1,by omega,by go_num,by go_num,zu HO,zu HG⟩
   case measure=>simp[intOf];omega
  ·obtain rfl:k=n:=by omega
   rw[marked_all s ps k hl] at hown
   have HO:=zh hown
   have HG:=zh hg
   clear hown hg
   go_wp2
   go_ret
   exact⟨rfl,zu HO,zu HG⟩
end TradeHelp
namespace TradeHeld
open Tup8
open TradeHelp (marks marks_len marks_getD)
theorem heldS(w:World)(g n cap:Nat)(s:Int)(h20:n≤1048576)(s0:0≤s)(s1:s≤100000000)(h:At8 w g (marks s n)):
  Calls Tryz.prog 62 #[.slice (some ⟨g,0,none⟩) n cap,.int .i64 s] w fun e w'=>e= .returned (.int .i64 (s+8*(n:Int)))∧w'=w:=by
 go_enter Tryz.func62,Tryz.ntmps62
 go_wp2
 go_loop [1,5] (fun m i=>∃(k:Nat),k≤n∧i= .int .i64 k∧m= .int .i64 (s+8*(k:Int))) (fun _ i=>n-(intOf i).toNat)
 case atStart=>exact⟨0,by omega,rfl,by go_num⟩
 case round=>
  obtain⟨k,hk,rfl,rfl⟩:=hrel
  by_cases t:k<n
  ·obtain⟨e0,e1,e2,e3,e4,e5,e6,e7⟩:=h k (by rw[marks_len];exact t)
   rw[marks_getD s n k t] at e0 e1 e2 e3 e4 e5 e6 e7
   have e2:w.cell? ⟨g,k*8+2,none⟩=some (.int .i64 (s+8*(k:Int)+1+1)):=by rw[e2];simp;omega
   have e3:w.cell? ⟨g,k*8+3,none⟩=some (.int .i64 (s+8*(k:Int)+1+1+1)):=by rw[e3];simp;omega
   have e4:w.cell? ⟨g,k*8+4,none⟩=some (.int .i64 (s+8*(k:Int)+1+1+1+1)):=by rw[e4];simp;omega
   have e5:w.cell? ⟨g,k*8+5,none⟩=some (.int .i64 (s+8*(k:Int)+1+1+1+1+1)):=by rw[e5];simp;omega
   have e6:w.cell? ⟨g,k*8+6,none⟩=some (.int .i64 (s+8*(k:Int)+1+1+1+1+1+1)):=by rw[e6];simp;omega
   have e7:w.cell? ⟨g,k*8+7,none⟩=some (.int .i64 (s+8*(k:Int)+1+1+1+1+1+1+1)):=by rw[e7];simp;omega
   clear h
   go_wp2
   go_round
   case rel=>exact⟨k+1,by omega,by go_num,by go_num⟩
   case measure=>simp[intOf];omega
  ·obtain rfl:k=n:=by omega
   clear h
   go_wp2
   go_ret
   exact⟨rfl,rfl⟩
end TradeHeld
namespace BHelp
open BMem Bks ILists
open IBalsFit (St one_more)
structure Ix where
 aa:Option Addr
 ca:Nat
 ai:Option Addr
 ci:Nat
 ab:Option Addr
 cb:Nat
 al:Option Addr
 cl:Nat
 ats:Option Addr
 ct:Nat
 b:Bk
structure RdI(w:World)(y:Ix):Prop where
 ra:Pairs.Reads w y.aa y.b.ac
 ri:Pairs.Reads w y.ai y.b.ic
 rb:Triples.Reads3 w y.ab y.b.bs
 rl:Tup5.Reads5 w y.al y.b.ls
 rt:Tup8.Reads8 w y.ats y.b.ts
theorem RdI.below{w w':World}{y:Ix}(h:RdI w y)(k:Below w.heap.size w w'):RdI w' y:=
 ⟨h.ra.below k,h.ri.below k,h.rb.below k,h.rl.below k,h.rt.below k⟩
structure ClI(w:World)(g:Nat)(y:Ix):Prop where
 c0:w.cell? ⟨g,0,none⟩=some (.slice y.aa y.b.ac.length y.ca)
 c1:w.cell? ⟨g,1,none⟩=some (.slice y.ai y.b.ic.length y.ci)
 c2:w.cell? ⟨g,2,none⟩=some (.slice y.ab y.b.bs.length y.cb)
 c3:w.cell? ⟨g,3,none⟩=some (.slice y.al y.b.ls.length y.cl)
 c4:w.cell? ⟨g,4,none⟩=some (.slice y.ats y.b.ts.length y.ct)
 c5:w.cell? ⟨g,5,none⟩=some (.int .i64 y.b.lot)
theorem ClI.below{w w':World}{B g:Nat}{y:Ix}(h:ClI w g y)(k:Below B w w')(hg:g<B):ClI w' g y:=
 ⟨(k.cell (p:=⟨g,0,none⟩) hg).trans h.c0,(k.cell (p:=⟨g,1,none⟩) hg).trans h.c1,(k.cell (p:=⟨g,2,none⟩) hg).trans h.c2,(k.cell (p:=⟨g,3,none⟩) hg).trans h.c3,(k.cell (p:=⟨g,4,none⟩) hg).trans h.c4,(k.cell (p:=⟨g,5,none⟩) hg).trans h.c5⟩
theorem row_block{w w':World}{base:Nat}{e:TypeId}{size:Nat}{g n cap:Nat}{xs:List Value}(h:w.ownsRow base e size (.slice (some ⟨g,0,none⟩) n cap) n xs)(hb:w'.heap[g]?=w.heap[g]?):w'.ownsRow base e size (.slice (some ⟨g,0,none⟩) n cap) n xs:=by
 refine⟨h.1,?_⟩
 rcases h.2 with⟨h1,_⟩|⟨g',c,cur,h1,h2,h3,h4⟩
 ·simp at h1
 ·obtain⟨e,_⟩:g=g'∧cap=c:=by simpa using h1
  subst e
  exact .inr ⟨g,c,cur,h1,h2,hb.trans h3,h4⟩
def Up(x:Bx)(N:Nat):Prop:=x.ga<N∧x.gi<N∧x.gb<N∧x.gl<N∧x.gt<N
def Lo(x:Bx)(N:Nat):Prop:=N≤x.ga∧N≤x.gi∧N≤x.gb∧N≤x.gl∧N≤x.gt
theorem ow_up{w:World}{base:Nat}{x:Bx}(h:Ow w base x):Up x w.heap.size:=⟨h.oa.lt.2,h.oi.lt.2,h.ob.lt.2,h.ol.lt.2,h.ot.lt.2⟩
structure Turn(x:Bx)(w w':World):Prop where
 os:w'.os=w.os
 tape:w'.tape=w.tape
 output:w'.output=w.output
 size:w.heap.size≤w'.heap.size
 block:∀k,k<w.heap.size→k≠x.ga→k≠x.gi→k≠x.gb→k≠x.gl→k≠x.gt→w'.heap[k]?=w.heap[k]?
theorem Turn.refl(x:Bx)(w:World):Turn x w w:=⟨rfl,rfl,rfl,Nat.le_refl _,fun _ _ _ _ _ _ _=>rfl⟩
theorem Turn.grown{x:Bx}{w u v:World}{g:Nat}(h:Turn x w u)(k:u.grownBy v (some g))(hg:g=x.ga∨g=x.gi∨g=x.gb∨g=x.gl∨g=x.gt):Turn x w v:=
 ⟨k.os.trans h.os,k.tape.trans h.tape,k.output.trans h.output,Nat.le_trans h.size k.size,fun j hj a b c d e=>(k.block j (Nat.lt_of_lt_of_le hj h.size) (fun q=>by injection q with q;omega)).trans (h.block j hj a b c d e)⟩
theorem Turn.alloc{x:Bx}{w u:World}(h:Turn x w u)(o:Obj):Turn x w (u.alloc o):=
 ⟨h.os,h.tape,h.output,by have:=h.size;simp;omega,fun j hj a b c d e=>(Below.heap_alloc u o j (Nat.lt_of_lt_of_le hj h.size)).trans (h.block j hj a b c d e)⟩
theorem Turn.below{x:Bx}{w u:World}{B:Nat}(h:Turn x w u)(hB:B≤w.heap.size)(lo:Lo x B):Below B w u:=
 ⟨h.os,h.tape,h.output,h.size,fun k hk=>h.block k (by omega) (by have:=lo.1;omega) (by have:=lo.2.1;omega) (by have:=lo.2.2.1;omega) (by have:=lo.2.2.2.1;omega) (by have:=lo.2.2.2.2;omega)⟩
theorem Turn.ow{x y:Bx}{w u:World}{base:Nat}(h:Turn x w u)(k:Ow w base y)(ap:(∃N,Up x N∧Lo y N)∨∃N,Lo x N∧Up y N):Ow u base y:=by
 have hu:=ow_up k
 have all:∀g,(g=y.ga∨g=y.gi∨g=y.gb∨g=y.gl∨g=y.gt)→u.heap[g]?=w.heap[g]?:=by
  intro g hg
  refine h.block g ?_ ?_ ?_ ?_ ?_ ?_
  ·unfold Up at hu;omega
  all_goals
   rcases ap with⟨N,a,b⟩|⟨N,a,b⟩
   ·unfold Up at a;unfold Lo at b;omega
   ·unfold Lo at a;unfold Up at b;omega
 exact⟨row_block k.oa (all _ (by simp)),row_block k.oi (all _ (by simp)),row_block k.ob (all _ (by simp)),row_block k.ol (all _ (by simp)),row_block k.ot (all _ (by simp))⟩
structure TB(w W:World)(y:Ix)(v0 v1 v2 v3 v4 v5:Value):Prop where
 b:Below w.heap.size w W
 ci:ClI W w.heap.size y
 o:Box W w.heap.size (w.heap.size+1+1) v0 v1 v2 v3 v4 v5
 r:Box W w.heap.size (w.heap.size+1) (.slice none 0 0) (.slice none 0 0) (.slice none 0 0) (.slice none 0 0) (.slice none 0 0) (.int .i64 0)
section
variable {w W W':World} {y:Ix} {v0 v1 v2 v3 v4 v5:Value}
theorem TB.call(h:TB w W y v0 v1 v2 v3 v4 v5)(k:Below W.heap.size W W'):TB w W' y v0 v1 v2 v3 v4 v5:=by
 have l:=h.o.lt
 exact⟨h.b.trans (k.mono h.b.size),h.ci.below k (by omega),h.o.below k (by omega),h.r.below k (by omega)⟩
theorem TB.set0(h:TB w W y v0 v1 v2 v3 v4 v5)(u:Value):TB w (W.setCell ⟨w.heap.size+1+1,0,none⟩ u) y u v1 v2 v3 v4 v5:=by
 obtain⟨b,g⟩:=h.o.set0 u
 have n0:some w.heap.size≠some (w.heap.size+1+1):=fun e=>by injection e;omega
 exact⟨h.b.setCell (by simp;omega) u,⟨g.cell h.ci.c0 n0,g.cell h.ci.c1 n0,g.cell h.ci.c2 n0,g.cell h.ci.c3 n0,g.cell h.ci.c4 n0,g.cell h.ci.c5 n0⟩,b,h.r.kept g (fun e=>by injection e;omega)⟩
theorem TB.set1(h:TB w W y v0 v1 v2 v3 v4 v5)(u:Value):TB w (W.setCell ⟨w.heap.size+1+1,1,none⟩ u) y v0 u v2 v3 v4 v5:=by
 obtain⟨b,g⟩:=h.o.set1 u
 have n0:some w.heap.size≠some (w.heap.size+1+1):=fun e=>by injection e;omega
 exact⟨h.b.setCell (by simp;omega) u,⟨g.cell h.ci.c0 n0,g.cell h.ci.c1 n0,g.cell h.ci.c2 n0,g.cell h.ci.c3 n0,g.cell h.ci.c4 n0,g.cell h.ci.c5 n0⟩,b,h.r.kept g (fun e=>by injection e;omega)⟩
theorem TB.set2(h:TB w W y v0 v1 v2 v3 v4 v5)(u:Value):TB w (W.setCell ⟨w.heap.size+1+1,2,none⟩ u) y v0 v1 u v3 v4 v5:=by
 obtain⟨b,g⟩:=h.o.set2 u
 have n0:some w.heap.size≠some (w.heap.size+1+1):=fun e=>by injection e;omega
 exact⟨h.b.setCell (by simp;omega) u,⟨g.cell h.ci.c0 n0,g.cell h.ci.c1 n0,g.cell h.ci.c2 n0,g.cell h.ci.c3 n0,g.cell h.ci.c4 n0,g.cell h.ci.c5 n0⟩,b,h.r.kept g (fun e=>by injection e;omega)⟩
theorem TB.set3(h:TB w W y v0 v1 v2 v3 v4 v5)(u:Value):TB w (W.setCell ⟨w.heap.size+1+1,3,none⟩ u) y v0 v1 v2 u v4 v5:=by
 obtain⟨b,g⟩:=h.o.set3 u
 have n0:some w.heap.size≠some (w.heap.size+1+1):=fun e=>by injection e;omega
 exact⟨h.b.setCell (by simp;omega) u,⟨g.cell h.ci.c0 n0,g.cell h.ci.c1 n0,g.cell h.ci.c2 n0,g.cell h.ci.c3 n0,g.cell h.ci.c4 n0,g.cell h.ci.c5 n0⟩,b,h.r.kept g (fun e=>by injection e;omega)⟩
theorem TB.set4(h:TB w W y v0 v1 v2 v3 v4 v5)(u:Value):TB w (W.setCell ⟨w.heap.size+1+1,4,none⟩ u) y v0 v1 v2 v3 u v5:=by
 obtain⟨b,g⟩:=h.o.set4 u
 have n0:some w.heap.size≠some (w.heap.size+1+1):=fun e=>by injection e;omega
 exact⟨h.b.setCell (by simp;omega) u,⟨g.cell h.ci.c0 n0,g.cell h.ci.c1 n0,g.cell h.ci.c2 n0,g.cell h.ci.c3 n0,g.cell h.ci.c4 n0,g.cell h.ci.c5 n0⟩,b,h.r.kept g (fun e=>by injection e;omega)⟩
theorem TB.set5(h:TB w W y v0 v1 v2 v3 v4 v5)(u:Value):TB w (W.setCell ⟨w.heap.size+1+1,5,none⟩ u) y v0 v1 v2 v3 v4 u:=by
 obtain⟨b,g⟩:=h.o.set5 u
 have n0:some w.heap.size≠some (w.heap.size+1+1):=fun e=>by injection e;omega
 exact⟨h.b.setCell (by simp;omega) u,⟨g.cell h.ci.c0 n0,g.cell h.ci.c1 n0,g.cell h.ci.c2 n0,g.cell h.ci.c3 n0,g.cell h.ci.c4 n0,g.cell h.ci.c5 n0⟩,b,h.r.kept g (fun e=>by injection e;omega)⟩
end
end BHelp
namespace LotApp
open Tup5
theorem info2:(Tryz.prog.info? 80).map (fun i=>(i.zero,i.size,i.bytes))=some (some (.agg #[.int .i64 0,.int .i64 0,.int .i64 0,.int .i64 0,.int .i64 0]),5,40):=by kernel_rfl
theorem wp_app(u:World){ops:Array Oper}{rest:List Oper}{o:Oper}{a:Act}{Q:Exit→Act→World→Prop}(hgd:o.guard=none)(s x:Operand)
  (ho:o.op= .call {callee:= .builtin .append,args:= #[s,x],argTypes:= #[29,29]})(base g n cap:Nat)(ps:List T5)(vb:Nat)(x0 x1 x2 x3 x4:Int)
  (hs:a.eval s= .slice (some ⟨g,0,none⟩) n cap)(hx:a.eval x= .slice (some ⟨vb,0,none⟩) 1 1)(hown:Own5 80 u base g n cap ps)(hv:Holds5 u vb 0 (x0,x1,x2,x3,x4))(hn:n≤1048576)(hb:base≤u.heap.size)
  (h:∀g' c' w',Own5 80 w' base g' (n+1) c' (ps++[(x0,x1,x2,x3,x4)])→u.grownBy w' (some g)→(g'=g∨g'=u.heap.size)→wpList Tryz.prog ops Q rest (a.put o.dst (.slice (some ⟨g',0,none⟩) (n+1) c')) w'):wpList Tryz.prog ops Q (o::rest) a u:=by
 obtain⟨i0,hi,hz0,hz1,hz2⟩:=info_parts info2
 have hat:At5 u vb [(x0,x1,x2,x3,x4)]:=by
  intro i hi
  obtain rfl:i=0:=by simpa using hi
  exact hv
 refine wpList_append_own_at u hgd s x 29 ho base 80 i0 (.agg #[.int .i64 0,.int .i64 0,.int .i64 0,.int .i64 0,.int .i64 0]) 5 40 Tryz.underlying29 hi hz0 hz1 hz2 rfl (by decide) _ n _ hs hown ⟨vb,0,none⟩ 1 1 (flat5 [(x0,x1,x2,x3,x4)]) hx rfl hat.cells (fun u hu=>flat5_one u _ hu) (by unfold maxLen;omega) (by omega) hb ?_
 intro v' w' own' gr' nil' loc'
 obtain⟨g',c',rfl,o'⟩:=own5_of_row (n':=n+1) (ps:=ps++[(x0,x1,x2,x3,x4)]) own' rfl (by rw[flat5_append]) (by rw[nil'];simp)
 exact h g' c' w' o' gr' (by simpa[Value.ownBlock] using loc')
end LotApp
namespace SSplit
open Tup5 Lots Takes SOk5 Quieter
theorem sSplit(w:World)(g n cap:Nat)(ps:List T5)(a i:Int)(hl:ps.length=n)(h20:n≤100000)(hg:g<w.heap.size)(h:At5 w g ps):
  Calls Tryz.prog 94 #[.slice (some ⟨g,0,none⟩) n cap,.int .i64 a,.int .i64 i] w fun e w'=>∃g1 c1 g2 c2,e= .returned (.tuple #[.slice (some ⟨g1,0,none⟩) (ownL ps a i).length c1,.slice (some ⟨g2,0,none⟩) (restL ps a i).length c2])∧Own5 80 w' w.heap.size g1 (ownL ps a i).length c1 (ownL ps a i)∧Own5 80 w' w.heap.size g2 (restL ps a i).length c2 (restL ps a i)∧g1≠g2∧Below w.heap.size w w':=by
 have H:=zh h
 clear h
 have O1:=zh ((lit50 80 w w.heap.size (Nat.le_refl _)).alloc (.cells #[] 80))
 have O2:=zh (lit50 80 (w.alloc (.cells #[] 80)) w.heap.size (by simp))
 have B0:=zh (show Below w.heap.size w ((w.alloc (.cells #[] 80)).alloc (.cells #[] 80)) from((Below.refl _ _).alloc (Nat.le_refl _) _).alloc (by simp) _)
 simp only[World.size_alloc] at O2
 go_enter Tryz.func94,Tryz.ntmps94
 go_wp2
 generalize (w.alloc (.cells #[] 80)).alloc (.cells #[] 80)=w0 at *
 go_loopw [8,9,10] (fun l m j wr=>∃(p q:List T5) (g1 c1 g2 c2 k:Nat),l= .slice (some ⟨g1,0,none⟩) p.length c1∧m= .slice (some ⟨g2,0,none⟩) q.length c2∧j= .int .i64 k∧k≤n∧p.length≤k∧q.length≤k∧g1≠g2∧Hid (p=ownL (ps.take k) a i)∧Hid (q=restL (ps.take k) a i)∧Hid (Own5 80 wr w.heap.size g1 p.length c1 p)∧Hid (Own5 80 wr w.heap.size g2 q.length c2 q)∧Hid (Below w.heap.size w wr)) (fun _ _ j _=>n-(intOf j).toNat)
 case atStart=>exact⟨[],[],w.heap.size,0,w.heap.size+1,0,0,rfl,rfl,rfl,by omega,by simp,by simp,by omega,zh rfl,zh rfl,O1,O2,B0⟩
 case round=>
  clear O1 O2 B0
  obtain⟨p,q,g1,c1,g2,c2,k,rfl,rfl,rfl,hk,pl,ql,g12,HP,HQ,H1,H2,HB⟩:=hrel
  have bs:=(zu HB).size
  have gl1:=(zu H1).lt.2
  have gl2:=(zu H2).lt.2
  by_cases t:k<n
  ·obtain⟨e0,e1,e2,e3,e4⟩:=(zu H).below (zu HB) hg k (by omega)
   have NP:=zh (own_next (ps:=ps) (k:=k) (by omega) a i)
   have NQ:=zh (rest_next (ps:=ps) (k:=k) (by omega) a i)
   rw[←zu HP] at NP
   rw[←zu HQ] at NQ
   have EQ:el5 ps k=((el5 ps k).1,(el5 ps k).2.1,(el5 ps k).2.2.1,(el5 ps k).2.2.2.1,(el5 ps k).2.2.2.2):=rfl
   rw[EQ] at NP NQ
   clear EQ HP HQ
   generalize (el5 ps k).1=x0 at *
   generalize (el5 ps k).2.1=x1 at *
   generalize (el5 ps k).2.2.1=x2 at *
   generalize (el5 ps k).2.2.2.1=x3 at *
   generalize (el5 ps k).2.2.2.2=x4 at *
   have V5:=zh (show Holds5 (wr.alloc (.cells #[.int .i64 x0,.int .i64 x1,.int .i64 x2,.int .i64 x3,.int .i64 x4] 80)) wr.heap.size 0 (x0,x1,x2,x3,x4) from by unfold Holds5;simp)
   by_cases own:x0=a∧x1=i
   ·have NP1:Hid (ownL (ps.take (k+1)) a i=p++[(x0,x1,x2,x3,x4)]):=zh (by rw[zu NP,if_pos own])
    have NQ1:Hid (restL (ps.take (k+1)) a i=q):=zh (by rw[zu NQ,if_pos own,List.append_nil])
    clear NP NQ
    obtain⟨rfl,rfl⟩:=own
    go_wp2_with (first|(at_builtin;refine LotApp.wp_app _ rfl _ _ rfl w.heap.size g1 p.length c1 p wr.heap.size x0 x1 x2 x3 x4 rfl rfl ((zu H1).alloc _) (zu V5) (by omega) (by simp;omega) ?_)|go_in)
    intro g5 c5 w5 o5 gr5 loc5
    have O5:=zh o5
    have K5:=zh (((zu H2).alloc (.cells #[.int .i64 x0,.int .i64 x1,.int .i64 x2,.int .i64 x3,.int .i64 x4] 80)).kept gr5 (by simp;omega))
    have B5:=zh (((zu HB).alloc bs (.cells #[.int .i64 x0,.int .i64 x1,.int .i64 x2,.int .i64 x3,.int .i64 x4] 80)).grown gr5 (by simp;omega) (fun j hj=>by cases hj;exact(zu H1).lt.1))
    have g5B:g5≠g2:=by
     try simp at loc5
     omega
    clear o5 gr5 loc5 V5
    go_wp2
    go_roundw
    case rel=>exact⟨p++[(x0,x1,x2,x3,x4)],q,g5,c5,g2,c2,k+1,by rw[show(p++[(x0,x1,x2,x3,x4)]).length=p.length+1 by simp],rfl,by go_num,by omega,by simp;omega,by omega,g5B,zh (zu NP1).symm,zh (zu NQ1).symm,zh (by rw[show(p++[(x0,x1,x2,x3,x4)]).length=p.length+1 by simp];exact zu O5),K5,B5⟩
    case measure=>simp[intOf];omega
   ·have NP1:Hid (ownL (ps.take (k+1)) a i=p):=zh (by rw[zu NP,if_neg own,List.append_nil])
    have NQ1:Hid (restL (ps.take (k+1)) a i=q++[(x0,x1,x2,x3,x4)]):=zh (by rw[zu NQ,if_neg own])
    clear NP NQ
    rcases(show x0≠a∨(x0=a∧x1≠i) by omega) with o2|⟨rfl,o2⟩
    ·have ob:(x0==a)=false:=by simpa using o2
     go_wp2_with (first|(at_builtin;refine LotApp.wp_app _ rfl _ _ rfl w.heap.size g2 q.length c2 q wr.heap.size x0 x1 x2 x3 x4 rfl rfl ((zu H2).alloc _) (zu V5) (by omega) (by simp;omega) ?_)|go_in)
     intro g5 c5 w5 o5 gr5 loc5
     have O5:=zh o5
     have K5:=zh (((zu H1).alloc (.cells #[.int .i64 x0,.int .i64 x1,.int .i64 x2,.int .i64 x3,.int .i64 x4] 80)).kept gr5 (by simp;omega))
     have B5:=zh (((zu HB).alloc bs (.cells #[.int .i64 x0,.int .i64 x1,.int .i64 x2,.int .i64 x3,.int .i64 x4] 80)).grown gr5 (by simp;omega) (fun j hj=>by cases hj;exact(zu H2).lt.1))
     have g5B:g5≠g1:=by
      try simp at loc5
      omega
     clear o5 gr5 loc5 V5
     go_wp2
     go_roundw
     case rel=>exact⟨p,q++[(x0,x1,x2,x3,x4)],g1,c1,g5,c5,k+1,rfl,by rw[show(q++[(x0,x1,x2,x3,x4)]).length=q.length+1 by simp],by go_num,by omega,by omega,by simp;omega,fun e=>g5B e.symm,zh (zu NP1).symm,zh (zu NQ1).symm,K5,zh (by rw[show(q++[(x0,x1,x2,x3,x4)]).length=q.length+1 by simp];exact zu O5),B5⟩
     case measure=>simp[intOf];omega
    ·have ob:(x1==i)=false:=by simpa using o2
     go_wp2_with (first|(at_builtin;refine LotApp.wp_app _ rfl _ _ rfl w.heap.size g2 q.length c2 q wr.heap.size x0 x1 x2 x3 x4 rfl rfl ((zu H2).alloc _) (zu V5) (by omega) (by simp;omega) ?_)|go_in)
     intro g5 c5 w5 o5 gr5 loc5
     have O5:=zh o5
     have K5:=zh (((zu H1).alloc (.cells #[.int .i64 x0,.int .i64 x1,.int .i64 x2,.int .i64 x3,.int .i64 x4] 80)).kept gr5 (by simp;omega))
     have B5:=zh (((zu HB).alloc bs (.cells #[.int .i64 x0,.int .i64 x1,.int .i64 x2,.int .i64 x3,.int .i64 x4] 80)).grown gr5 (by simp;omega) (fun j hj=>by cases hj;exact(zu H2).lt.1))
     have g5B:g5≠g1:=by
      try simp at loc5
      omega
     clear o5 gr5 loc5 V5
     go_wp2
     go_roundw
     case rel=>exact⟨p,q++[(x0,x1,x2,x3,x4)],g1,c1,g5,c5,k+1,rfl,by rw[show(q++[(x0,x1,x2,x3,x4)]).length=q.length+1 by simp],by go_num,by omega,by omega,by simp;omega,fun e=>g5B e.symm,zh (zu NP1).symm,zh (zu NQ1).symm,K5,zh (by rw[show(q++[(x0,x1,x2,x3,x4)]).length=q.length+1 by simp];exact zu O5),B5⟩
     case measure=>simp[intOf];omega
  ·obtain rfl:k=n:=by omega
   have EP:=zh (show p=ownL ps a i by rw[zu HP,List.take_of_length_le (by omega)])
   have EQ:=zh (show q=restL ps a i by rw[zu HQ,List.take_of_length_le (by omega)])
   clear HP HQ
   go_wp2
   go_ret2
   rw[←zu EP,←zu EQ]
   exact⟨g1,c1,g2,c2,rfl,zu H1,zu H2,g12,zu HB⟩
theorem take_sum{ps:List T5}(h:∀p∈ps,Pos p)(k:Nat):0≤sumQ (ps.take k)∧sumQ (ps.take k)≤sumQ ps∧0≤sumC (ps.take k)∧sumC (ps.take k)≤sumC ps:=by
 have e:ps=ps.take k++ps.drop k:=(List.take_append_drop k ps).symm
 have p1:=sum_pos (ps.take k) (fun p hp=>h p (List.mem_of_mem_take hp))
 have p2:=sum_pos (ps.drop k) (fun p hp=>h p (List.mem_of_mem_drop hp))
 have e1:=sumQ_append (ps.take k) (ps.drop k)
 have e2:=sumC_append (ps.take k) (ps.drop k)
 rw[←e] at e1 e2
 omega
theorem sQty(w:World)(g n cap:Nat)(ps:List T5)(hl:ps.length=n)(h20:n≤1048576)(h:At5 w g ps)(hp:∀p∈ps,Pos p)(hs:sumQ ps≤1000000000000000):
  Calls Tryz.prog 95 #[.slice (some ⟨g,0,none⟩) n cap] w fun e w'=>e= .returned (.int .i64 (sumQ ps))∧Below w.heap.size w w':=by
 have HP:=zh hp
 clear hp
 go_enter Tryz.func95,Tryz.ntmps95
 go_wp2
 go_loopw [3,4] (fun q j wr=>∃(k:Nat) (s:Int),q= .int .i64 s∧j= .int .i64 k∧k≤n∧At5 wr g ps∧Hid (s=sumQ (ps.take k))∧Hid (Below w.heap.size w wr)) (fun _ j _=>n-(intOf j).toNat)
 case atStart=>exact⟨0,0,rfl,rfl,by omega,h,zh rfl,zh (Below.refl _ _)⟩
 case round=>
  clear h
  obtain⟨k,s,rfl,rfl,hk,h,HS,HB⟩:=hrel
  have ts:=take_sum (zu HP) k
  have s0:0≤s:=by rw[zu HS];omega
  by_cases t:k<n
  ·obtain⟨e0,e1,e2,e3,e4⟩:=h k (by omega)
   have ts1:=take_sum (zu HP) (k+1)
   have NX:=zh (sumQ_next (ps:=ps) (k:=k) (by omega))
   rw[←zu HS] at NX
   have xp:=(zu HP) _ (getD_mem (ps:=ps) (i:=k) (by omega))
   unfold Pos at xp
   have b1:s+(el5 ps k).2.2.2.1≤1000000000000000:=by rw[←zu NX];omega
   have HA:=zh h
   clear h HS ts ts1
   obtain⟨⟨x31,x32⟩,x41,x42⟩:=xp
   generalize (el5 ps k).1=x0 at *
   generalize (el5 ps k).2.1=x1 at *
   generalize (el5 ps k).2.2.1=x2 at *
   generalize (el5 ps k).2.2.2.1=x3 at *
   generalize (el5 ps k).2.2.2.2=x4 at *
   have wS:IntKind.i64.wrap (s+x3)=s+x3:=by rw[IntKind.wrap_i64];omega
   go_wp2
   go_roundw
   case rel=>exact⟨k+1,s+x3,rfl,by go_num,by omega,zu HA,zh (zu NX).symm,HB⟩
   case measure=>simp[intOf];omega
  ·obtain rfl:k=n:=by omega
   have E:=zh (show s=sumQ ps by rw[zu HS,List.take_of_length_le (by omega)])
   clear h HS ts
   go_wp2
   go_ret
   exact⟨by rw[←zu E];rfl,zu HB⟩
end SSplit
namespace BMemV13
open BMem Bks BHelp
open Lots (Says says_of NoOk ownL restL)
open Bals (T3 el3 val sumI)
open Tup5 (T5 el5)
open Tup8 (T8 el8)
open IBalsFit (one_more)
open Pairs (below_drewN)
structure RdV(w:World)(x:Ix):Prop where
 ea:x.b.ac.length≠0→∃g,x.aa=some ⟨g,0,none⟩
 ra:∀g,x.aa=some ⟨g,0,none⟩→g<w.heap.size∧Pairs.At w g x.b.ac
 na:x.b.ac.length≤1048576
 ei:x.b.ic.length≠0→∃g,x.ai=some ⟨g,0,none⟩
 ri:∀g,x.ai=some ⟨g,0,none⟩→g<w.heap.size∧Pairs.At w g x.b.ic
 ni:x.b.ic.length≤1048576
 eb:x.b.bs.length≠0→∃g,x.ab=some ⟨g,0,none⟩
 rb:∀g,x.ab=some ⟨g,0,none⟩→g<w.heap.size∧Triples.At3 w g x.b.bs
 nb:x.b.bs.length≤1048576
 el:x.b.ls.length≠0→∃g,x.al=some ⟨g,0,none⟩
 rl:∀g,x.al=some ⟨g,0,none⟩→g<w.heap.size∧Tup5.At5 w g x.b.ls
 nl:x.b.ls.length≤1048576
 et:x.b.ts.length≠0→∃g,x.ats=some ⟨g,0,none⟩
 rt:∀g,x.ats=some ⟨g,0,none⟩→g<w.heap.size∧Tup8.At8 w g x.b.ts
 nt:x.b.ts.length≤1048576
theorem RdV.below{w w':World}{x:Ix}(h:RdV w x)(k:Below w.heap.size w w'):RdV w' x:=
 ⟨h.ea,fun g e=>⟨Nat.lt_of_lt_of_le (h.ra g e).1 k.size,(h.ra g e).2.below k (h.ra g e).1⟩,h.na,h.ei,fun g e=>⟨Nat.lt_of_lt_of_le (h.ri g e).1 k.size,(h.ri g e).2.below k (h.ri g e).1⟩,h.ni,h.eb,fun g e=>⟨Nat.lt_of_lt_of_le (h.rb g e).1 k.size,(h.rb g e).2.below k (h.rb g e).1⟩,h.nb,h.el,fun g e=>⟨Nat.lt_of_lt_of_le (h.rl g e).1 k.size,(h.rl g e).2.below k (h.rl g e).1⟩,h.nl,h.et,fun g e=>⟨Nat.lt_of_lt_of_le (h.rt g e).1 k.size,(h.rt g e).2.below k (h.rt g e).1⟩,h.nt⟩
structure ClV(w:World)(g:Nat)(x:Ix):Prop where
 c0:w.cell? ⟨g,0,none⟩=some (.slice x.aa x.b.ac.length x.ca)
 c1:w.cell? ⟨g,1,none⟩=some (.slice x.ai x.b.ic.length x.ci)
 c2:w.cell? ⟨g,2,none⟩=some (.slice x.ab x.b.bs.length x.cb)
 c3:w.cell? ⟨g,3,none⟩=some (.slice x.al x.b.ls.length x.cl)
 c4:w.cell? ⟨g,4,none⟩=some (.slice x.ats x.b.ts.length x.ct)
 c5:w.cell? ⟨g,5,none⟩=some (.int .i64 x.b.lot)
theorem ClV.below{w w':World}{B g:Nat}{x:Ix}(h:ClV w g x)(k:Below B w w')(hg:g<B):ClV w' g x:=
 ⟨(k.cell (p:=⟨g,0,none⟩) hg).trans h.c0,(k.cell (p:=⟨g,1,none⟩) hg).trans h.c1,(k.cell (p:=⟨g,2,none⟩) hg).trans h.c2,(k.cell (p:=⟨g,3,none⟩) hg).trans h.c3,(k.cell (p:=⟨g,4,none⟩) hg).trans h.c4,(k.cell (p:=⟨g,5,none⟩) hg).trans h.c5⟩
structure StV(w W:World)(x:Ix):Prop where
 r:RdV W x
 c:ClV W w.heap.size x
 b:Below w.heap.size w W
 s:w.heap.size<W.heap.size
theorem StV.step{w W W':World}{x:Ix}(h:StV w W x)(k:Below W.heap.size W W'):StV w W' x:=
 ⟨h.r.below k,h.c.below k h.s,h.b.trans (k.mono (Nat.le_of_lt h.s)),Nat.lt_of_lt_of_le h.s k.size⟩
theorem StV.start{w:World}{x:Ix}(h:RdV w x)(e:TypeId):StV w (w.alloc (.cells #[.slice x.aa x.b.ac.length x.ca,.slice x.ai x.b.ic.length x.ci,.slice x.ab x.b.bs.length x.cb,.slice x.al x.b.ls.length x.cl,.slice x.ats x.b.ts.length x.ct,.int .i64 x.b.lot] e)) x:=
 ⟨h.below (one_more _ _),⟨by simp,by simp,by simp,by simp,by simp,by simp⟩,(Below.refl w.heap.size w).alloc (Nat.le_refl _) _,by simp⟩
theorem okA0(w:World)(a:Option Addr)(c:Nat):Calls Tryz.prog 66 #[.slice a 0 c] w fun e w'=>e= .returned (.bool true)∧w'=w:=by
 go_enter Tryz.func66,Tryz.ntmps66
 go_wp2
 go_loopw [3] (fun i wr=>i= .int .i64 0∧wr=w) (fun _ _=>0)
 case atStart=>exact⟨rfl,rfl⟩
 case round=>
  obtain⟨rfl,rfl⟩:=hrel
  go_wp2
  go_ret
  exact⟨rfl,rfl⟩
theorem okI0(w:World)(a:Option Addr)(c:Nat):Calls Tryz.prog 67 #[.slice a 0 c] w fun e w'=>e= .returned (.bool true)∧w'=w:=by
 go_enter Tryz.func67,Tryz.ntmps67
 go_wp2
 go_loopw [3] (fun i wr=>i= .int .i64 0∧wr=w) (fun _ _=>0)
 case atStart=>exact⟨rfl,rfl⟩
 case round=>
  obtain⟨rfl,rfl⟩:=hrel
  go_wp2
  go_ret
  exact⟨rfl,rfl⟩
theorem kindA0(w:World)(a:Option Addr)(c:Nat)(no:Int):Calls Tryz.prog 73 #[.slice a 0 c,.int .i64 no] w fun e w'=>e= .returned (.int .i64 0)∧w'=w:=by
 go_enter Tryz.func73,Tryz.ntmps73
 go_wp2
 go_loopw [5] (fun i wr=>i= .int .i64 0∧wr=w) (fun _ _=>0)
 case atStart=>exact⟨rfl,rfl⟩
 case round=>
  obtain⟨rfl,rfl⟩:=hrel
  go_wp2
  go_ret
  exact⟨rfl,rfl⟩
theorem kindI0(w:World)(a:Option Addr)(c:Nat)(no:Int):Calls Tryz.prog 74 #[.slice a 0 c,.int .i64 no] w fun e w'=>e= .returned (.int .i64 0)∧w'=w:=by
 go_enter Tryz.func74,Tryz.ntmps74
 go_wp2
 go_loopw [5] (fun i wr=>i= .int .i64 0∧wr=w) (fun _ _=>0)
 case atStart=>exact⟨rfl,rfl⟩
 case round=>
  obtain⟨rfl,rfl⟩:=hrel
  go_wp2
  go_ret
  exact⟨rfl,rfl⟩
theorem okB0(w:World)(a:Option Addr)(c:Nat):Calls Tryz.prog 68 #[.slice a 0 c] w fun e w'=>e= .returned (.bool true)∧w'=w:=by
 go_enter Tryz.func68,Tryz.ntmps68
 go_wp2
 go_loopw [3,4] (fun i _ wr=>i= .int .i64 0∧wr=w) (fun _ _ _=>0)
 case atStart=>exact⟨rfl,rfl⟩
 case round=>
  obtain⟨rfl,rfl⟩:=hrel
  go_wp2
  go_ret
  exact⟨rfl,rfl⟩
theorem okL0(w:World)(a:Option Addr)(c:Nat):Calls Tryz.prog 69 #[.slice a 0 c] w fun e w'=>e= .returned (.bool true)∧w'=w:=by
 go_enter Tryz.func69,Tryz.ntmps69
 go_wp2
 go_loopw [3,4,5,6] (fun _ _ i _ wr=>i= .int .i64 0∧wr=w) (fun _ _ _ _ _=>0)
 case atStart=>exact⟨rfl,rfl⟩
 case round=>
  obtain⟨rfl,rfl⟩:=hrel
  go_wp2
  go_ret
  exact⟨rfl,rfl⟩
theorem okT0(w:World)(a:Option Addr)(c:Nat):Calls Tryz.prog 70 #[.slice a 0 c] w fun e w'=>e= .returned (.bool true)∧w'=w:=by
 go_enter Tryz.func70,Tryz.ntmps70
 go_wp2
 go_loopw [3] (fun i wr=>i= .int .i64 0∧wr=w) (fun _ _=>0)
 case atStart=>exact⟨rfl,rfl⟩
 case round=>
  obtain⟨rfl,rfl⟩:=hrel
  go_wp2
  go_ret
  exact⟨rfl,rfl⟩
theorem of0(w:World)(a:Option Addr)(c:Nat)(p q:Int):Calls Tryz.prog 96 #[.slice a 0 c,.int .i64 p,.int .i64 q] w fun e w'=>e= .returned (.int .i64 0)∧w'=w:=by
 go_enter Tryz.func96,Tryz.ntmps96
 go_wp2
 go_loopw [7] (fun i wr=>i= .int .i64 0∧wr=w) (fun _ _=>0)
 case atStart=>exact⟨rfl,rfl⟩
 case round=>
  obtain⟨rfl,rfl⟩:=hrel
  go_wp2
  go_ret
  exact⟨rfl,rfl⟩
theorem split0(w:World)(a:Option Addr)(c:Nat)(p q:Int):Calls Tryz.prog 94 #[.slice a 0 c,.int .i64 p,.int .i64 q] w fun e w'=>∃g1 c1 g2 c2,e= .returned (.tuple #[.slice (some ⟨g1,0,none⟩) 0 c1,.slice (some ⟨g2,0,none⟩) 0 c2])∧Tup5.Own5 80 w' w.heap.size g1 0 c1 []∧Below w.heap.size w w':=by
 have O1:=zh (show Tup5.Own5 80 ((w.alloc (.cells #[] 80)).alloc (.cells #[] 80)) w.heap.size w.heap.size 0 0 [] from World.ownsRow.alloc (World.ownsRow_lit w #[] 0 (Nat.le_refl _) (by decide) rfl) _)
 have B1:=zh ((one_more w (.cells #[] 80)).alloc (by simp) (.cells #[] 80))
 go_enter Tryz.func94,Tryz.ntmps94
 go_wp2
 go_loopw [8,9,10] (fun l m i wr=>l= .slice (some ⟨w.heap.size,0,none⟩) 0 0∧m= .slice (some ⟨w.heap.size+1,0,none⟩) 0 0∧i= .int .i64 0∧wr=((w.alloc (.cells #[] 80)).alloc (.cells #[] 80))) (fun _ _ _ _=>0)
 case atStart=>exact⟨rfl,rfl,rfl,rfl⟩
 case round=>
  obtain⟨rfl,rfl,rfl,rfl⟩:=hrel
  go_wp2
  go_ret2
  exact⟨w.heap.size,0,_,0,rfl,zu O1,zu B1⟩
theorem sKindA(w:World)(x:Ix)(no r:Int)(h:RdV w x)(hr:Chart.Right 20 4 x.b.ac)(hk:kindOf x.b.ac no=r):
  Calls Tryz.prog 73 #[.slice x.aa x.b.ac.length x.ca,.int .i64 no] w fun e w'=>e= .returned (.int .i64 r)∧Below w.heap.size w w':=by
 by_cases z:x.b.ac.length=0
 ·rw[z]
  have e:r=0:=by rw[←hk,List.eq_nil_of_length_eq_zero z];rfl
  exact(kindA0 w x.aa x.ca no).mono fun e' w' ⟨h1,h2⟩=>⟨by rw[h1,e],by rw[h2];exact Below.refl _ _⟩
 ·obtain⟨g,eg⟩:=h.ea z
  rw[eg]
  exact(AccountSOk.sKind w g _ x.ca x.b.ac no rfl h.na (h.ra g eg).2).mono fun e w' ⟨r',h1,h2,q,h3⟩=>⟨by rw[h2,kind_is hr h1,hk],by rw[h3];exact below_drewN (Below.refl _ _) q⟩
theorem sKindI(w:World)(x:Ix)(no r:Int)(h:RdV w x)(hr:Chart.Right 8 2 x.b.ic)(hk:kindOf x.b.ic no=r):
  Calls Tryz.prog 74 #[.slice x.ai x.b.ic.length x.ci,.int .i64 no] w fun e w'=>e= .returned (.int .i64 r)∧Below w.heap.size w w':=by
 by_cases z:x.b.ic.length=0
 ·rw[z]
  have e:r=0:=by rw[←hk,List.eq_nil_of_length_eq_zero z];rfl
  exact(kindI0 w x.ai x.ci no).mono fun e' w' ⟨h1,h2⟩=>⟨by rw[h1,e],by rw[h2];exact Below.refl _ _⟩
 ·obtain⟨g,eg⟩:=h.ei z
  rw[eg]
  exact(InstrSOk.sKind w g _ x.ci x.b.ic no rfl h.ni (h.ri g eg).2).mono fun e w' ⟨r',h1,h2,q,h3⟩=>⟨by rw[h2,kind_is hr h1,hk],by rw[h3];exact below_drewN (Below.refl _ _) q⟩
theorem sOksA(w:World)(x:Ix)(ok:Bool)(h:RdV w x)(hok:Chart.Says ok 20 4 x.b.ac):Calls Tryz.prog 66 #[.slice x.aa x.b.ac.length x.ca] w fun e w'=>e= .returned (.bool ok)∧Below w.heap.size w w':=by
 by_cases z:x.b.ac.length=0
 ·rw[z]
  have e:ok=true:=hok.2 ⟨by omega,fun i hi=>absurd hi (by omega)⟩
  exact(okA0 w x.aa x.ca).mono fun e' w' ⟨h1,h2⟩=>⟨by rw[h1,e],by rw[h2];exact Below.refl _ _⟩
 ·obtain⟨g,eg⟩:=h.ea z
  rw[eg]
  exact(AccountSOk.sOk w g _ x.ca x.b.ac ok rfl h.na (h.ra g eg).2 hok).mono fun e w' ⟨h1,q,h2⟩=>⟨h1,by rw[h2];exact below_drewN (Below.refl _ _) q⟩
theorem sOksI(w:World)(x:Ix)(ok:Bool)(h:RdV w x)(hok:Chart.Says ok 8 2 x.b.ic):Calls Tryz.prog 67 #[.slice x.ai x.b.ic.length x.ci] w fun e w'=>e= .returned (.bool ok)∧Below w.heap.size w w':=by
 by_cases z:x.b.ic.length=0
 ·rw[z]
  have e:ok=true:=hok.2 ⟨by omega,fun i hi=>absurd hi (by omega)⟩
  exact(okI0 w x.ai x.ci).mono fun e' w' ⟨h1,h2⟩=>⟨by rw[h1,e],by rw[h2];exact Below.refl _ _⟩
 ·obtain⟨g,eg⟩:=h.ei z
  rw[eg]
  exact(InstrSOk.sOk w g _ x.ci x.b.ic ok rfl h.ni (h.ri g eg).2 hok).mono fun e w' ⟨h1,q,h2⟩=>⟨h1,by rw[h2];exact below_drewN (Below.refl _ _) q⟩
theorem sOksB(w:World)(x:Ix)(ok:Bool)(h:RdV w x)(hok:Bals.Says ok (Bals.Right x.b.bs)):Calls Tryz.prog 68 #[.slice x.ab x.b.bs.length x.cb] w fun e w'=>e= .returned (.bool ok)∧Below w.heap.size w w':=by
 by_cases z:x.b.bs.length=0
 ·rw[z]
  have e:ok=true:=hok.of ⟨by omega,fun i hi=>absurd hi (by omega)⟩
  exact(okB0 w x.ab x.cb).mono fun e' w' ⟨h1,h2⟩=>⟨by rw[h1,e],by rw[h2];exact Below.refl _ _⟩
 ·obtain⟨g,eg⟩:=h.eb z
  rw[eg]
  exact SOk3.sOk w g _ x.cb x.b.bs ok rfl h.nb (h.rb g eg).1 (h.rb g eg).2 hok
theorem sOksL(w:World)(x:Ix)(ok:Bool)(h:RdV w x)(hok:Says ok (Lots.Right x.b.ls)):Calls Tryz.prog 69 #[.slice x.al x.b.ls.length x.cl] w fun e w'=>e= .returned (.bool ok)∧Below w.heap.size w w':=by
 by_cases z:x.b.ls.length=0
 ·rw[z]
  have e:ok=true:=hok.of ⟨by omega,fun i hi=>absurd hi (by omega),fun a i=>by rw[List.eq_nil_of_length_eq_zero z];simp[Lots.qtyOf,Lots.costOf]⟩
  exact(okL0 w x.al x.cl).mono fun e' w' ⟨h1,h2⟩=>⟨by rw[h1,e],by rw[h2];exact Below.refl _ _⟩
 ·obtain⟨g,eg⟩:=h.el z
  rw[eg]
  exact SOk5.sOk w g _ x.cl x.b.ls ok rfl h.nl (h.rl g eg).1 (h.rl g eg).2 hok
theorem sOksT(w:World)(x:Ix)(ok:Bool)(h:RdV w x)(hok:Says ok (TRight x.b.ts)):Calls Tryz.prog 70 #[.slice x.ats x.b.ts.length x.ct] w fun e w'=>e= .returned (.bool ok)∧Below w.heap.size w w':=by
 by_cases z:x.b.ts.length=0
 ·rw[z]
  have e:ok=true:=hok.of ⟨by omega,fun i hi=>absurd hi (by omega)⟩
  exact(okT0 w x.ats x.ct).mono fun e' w' ⟨h1,h2⟩=>⟨by rw[h1,e],by rw[h2];exact Below.refl _ _⟩
 ·obtain⟨g,eg⟩:=h.et z
  rw[eg]
  exact ITrade.sOk w g _ x.ct x.b.ts ok rfl h.nt (h.rt g eg).1 (h.rt g eg).2 hok
theorem sOfV(w:World)(x:Ix)(p q:Int)(h:RdV w x):Calls Tryz.prog 96 #[.slice x.ab x.b.bs.length x.cb,.int .i64 p,.int .i64 q] w fun e w'=>e= .returned (.int .i64 (val x.b.bs p q))∧w'=w:=by
 by_cases z:x.b.bs.length=0
 ·rw[z,List.eq_nil_of_length_eq_zero z]
  exact of0 w x.ab x.cb p q
 ·obtain⟨g,eg⟩:=h.eb z
  rw[eg]
  exact Look.sOf w g _ x.cb x.b.bs p q rfl h.nb (h.rb g eg).2
theorem sSplitV(w:World)(x:Ix)(p q:Int)(h:RdV w x)(h20:x.b.ls.length≤100000):Calls Tryz.prog 94 #[.slice x.al x.b.ls.length x.cl,.int .i64 p,.int .i64 q] w fun e w'=>∃g1 c1 g2 n2 c2,e= .returned (.tuple #[.slice (some ⟨g1,0,none⟩) (ownL x.b.ls p q).length c1,.slice (some ⟨g2,0,none⟩) n2 c2])∧Tup5.Own5 80 w' w.heap.size g1 (ownL x.b.ls p q).length c1 (ownL x.b.ls p q)∧Below w.heap.size w w':=by
 by_cases z:x.b.ls.length=0
 ·rw[z,List.eq_nil_of_length_eq_zero z]
  exact(split0 w x.al x.cl p q).mono fun e w' ⟨g1,c1,g2,c2,h1,h2,h3⟩=>⟨g1,c1,g2,0,c2,h1,h2,h3⟩
 ·obtain⟨g,eg⟩:=h.el z
  rw[eg]
  exact(SSplit.sSplit w g _ x.cl x.b.ls p q rfl h20 (h.rl g eg).1 (h.rl g eg).2).mono fun e w' ⟨g1,c1,g2,c2,h1,h2,_,_,h3⟩=>⟨g1,c1,g2,_,c2,h1,h2,h3⟩
end BMemV13
namespace BkEq
open BMem Bks ILists BHelp
open IBalsFit (St one_more)
structure Two(w W:World)(x y:Bx):Prop where
 rx:Rd W x
 ry:Rd W y
 cx:Cl W w.heap.size x
 cy:Cl W (w.heap.size+1) y
 b:Below w.heap.size w W
 s:w.heap.size+1<W.heap.size
theorem Two.step{w W W':World}{x y:Bx}(h:Two w W x y)(k:Below W.heap.size W W'):Two w W' x y:=
 ⟨h.rx.below k,h.ry.below k,h.cx.below k (by have:=h.s;omega),h.cy.below k h.s,h.b.trans (k.mono h.b.size),Nat.lt_of_lt_of_le h.s k.size⟩
theorem Two.start{w:World}{x y:Bx}(hx:Rd w x)(hy:Rd w y)(e:TypeId):Two w ((w.alloc (.cells #[.slice (some ⟨x.ga,0,none⟩) x.b.ac.length x.ca,.slice (some ⟨x.gi,0,none⟩) x.b.ic.length x.ci,.slice (some ⟨x.gb,0,none⟩) x.b.bs.length x.cb,.slice (some ⟨x.gl,0,none⟩) x.b.ls.length x.cl,.slice (some ⟨x.gt,0,none⟩) x.b.ts.length x.ct,.int .i64 x.b.lot] e)).alloc (.cells #[.slice (some ⟨y.ga,0,none⟩) y.b.ac.length y.ca,.slice (some ⟨y.gi,0,none⟩) y.b.ic.length y.ci,.slice (some ⟨y.gb,0,none⟩) y.b.bs.length y.cb,.slice (some ⟨y.gl,0,none⟩) y.b.ls.length y.cl,.slice (some ⟨y.gt,0,none⟩) y.b.ts.length y.ct,.int .i64 y.b.lot] e)) x y:=by
 have c:=boxed (w.alloc (.cells #[.slice (some ⟨x.ga,0,none⟩) x.b.ac.length x.ca,.slice (some ⟨x.gi,0,none⟩) x.b.ic.length x.ci,.slice (some ⟨x.gb,0,none⟩) x.b.bs.length x.cb,.slice (some ⟨x.gl,0,none⟩) x.b.ls.length x.cl,.slice (some ⟨x.gt,0,none⟩) x.b.ts.length x.ct,.int .i64 x.b.lot] e)) y e
 have c':Cl ((w.alloc (.cells #[.slice (some ⟨x.ga,0,none⟩) x.b.ac.length x.ca,.slice (some ⟨x.gi,0,none⟩) x.b.ic.length x.ci,.slice (some ⟨x.gb,0,none⟩) x.b.bs.length x.cb,.slice (some ⟨x.gl,0,none⟩) x.b.ls.length x.cl,.slice (some ⟨x.gt,0,none⟩) x.b.ts.length x.ct,.int .i64 x.b.lot] e)).alloc (.cells #[.slice (some ⟨y.ga,0,none⟩) y.b.ac.length y.ca,.slice (some ⟨y.gi,0,none⟩) y.b.ic.length y.ci,.slice (some ⟨y.gb,0,none⟩) y.b.bs.length y.cb,.slice (some ⟨y.gl,0,none⟩) y.b.ls.length y.cl,.slice (some ⟨y.gt,0,none⟩) y.b.ts.length y.ct,.int .i64 y.b.lot] e)) (w.heap.size+1) y:=by simpa using c
 exact⟨(hx.alloc _).alloc _,(hy.alloc _).alloc _,(boxed w x e).below (one_more _ _) (by simp),c',((Below.refl w.heap.size w).alloc (Nat.le_refl _) _).alloc (by simp) _,by simp⟩
def e1(b:Bk):Int:=1+2*(b.ac.length:Int)
def e2(b:Bk):Int:=e1 b+2*(b.ic.length:Int)
def e3(b:Bk):Int:=e2 b+3*(b.bs.length:Int)
def e4(b:Bk):Int:=e3 b+5*(b.ls.length:Int)
def e5(b:Bk):Int:=e4 b+8*(b.ts.length:Int)
theorem e_bd{b:Bk}(h:Small b):(1≤e1 b∧e1 b≤100000000)∧(1≤e2 b∧e2 b≤100000000)∧(1≤e3 b∧e3 b≤100000000)∧(1≤e4 b∧e4 b≤100000000)∧(1≤e5 b∧e5 b≤100000000):=by
 obtain⟨h1,h2,h3,h4,h5⟩:=h
 unfold e5 e4 e3 e2 e1
 omega
structure OwM(w:World)(base:Nat)(x:Bx):Prop where
 oa:Pairs.Own 75 w base x.ga x.b.ac.length x.ca (AccountMark.marks 1 x.b.ac.length)
 oi:Pairs.Own 76 w base x.gi x.b.ic.length x.ci (InstrMark.marks (e1 x.b) x.b.ic.length)
 ob:Triples.Own3 78 w base x.gb x.b.bs.length x.cb (BalHelp.marks (e2 x.b) x.b.bs.length)
 ol:Tup5.Own5 80 w base x.gl x.b.ls.length x.cl (LotHelp.marks (e3 x.b) x.b.ls.length)
 ot:Tup8.Own8 82 w base x.gt x.b.ts.length x.ct (TradeHelp.marks (e4 x.b) x.b.ts.length)
theorem OwM.below{w w':World}{base:Nat}{x:Bx}(h:OwM w base x)(k:Below w.heap.size w w'):OwM w' base x:=
 ⟨h.oa.below k h.oa.lt.2,h.oi.below k h.oi.lt.2,h.ob.below k h.ob.lt.2,h.ol.below k h.ol.lt.2,h.ot.below k h.ot.lt.2⟩
end BkEq
namespace SRead13L
theorem row_step{W W':World}{base:Nat}{e:TypeId}{m:Nat}{v:Value}{n:Nat}{vs:List Value}(h:W.ownsRow base e m v n vs)(k:Below W.heap.size W W'):W'.ownsRow base e m v n vs:=
 World.ownsRow.kept h (row:=none) ⟨k.os,k.tape,k.output,k.size,fun i hi _=>k.block i hi⟩ (by
  cases hb:v.ownBlock with
  |none=>exact .inl rfl
  |some g=>exact .inr (by simp))
theorem addr_of{W:World}{base:Nat}{e:TypeId}{m n c:Nat}{a:Option Addr}{vs:List Value}(h:W.ownsRow base e m (.slice a n c) n vs):(n≠0→∃g,a=some ⟨g,0,none⟩)∧∀g,a=some ⟨g,0,none⟩→g<W.heap.size:=by
 refine⟨fun hn=>?_,fun g e=>(World.ownsRow.lt h g (by rw[e];rfl)).2⟩
 rcases h.2 with⟨h1,_⟩|⟨g,c',cur,h1,_⟩
 ·have:n=0:=by simp at h1;omega
  exact absurd this hn
 ·have:a=some ⟨g,0,none⟩∧c=c':=by simpa using h1
  exact⟨g,this.1⟩
end SRead13L
namespace VB13
open BMem Bks BHelp BkEq BMemV13
open SRead13L (row_step)
open IBalsFit (one_more)
theorem other{W W':World}{base base':Nat}{e e':TypeId}{m m':Nat}{v v':Value}{n n':Nat}{vs vs':List Value}(h:W.ownsRow base e m v n vs)(k:W.ownsRow base' e' m' v' n' vs')(ne:e≠e')(g:W.grownBy W' v'.ownBlock):W'.ownsRow base e m v n vs:=
 World.ownsRow.kept h g (by
  cases hb:v.ownBlock with
  |none=>exact .inl rfl
  |some b=>
   refine .inr (fun eq=>?_)
   rcases h.2 with⟨h1,_⟩|⟨b1,c1,cur1,h1,_,h2,_⟩
   ·rw[h1] at hb;simp[Value.ownBlock] at hb
   ·rcases k.2 with⟨k1,_⟩|⟨b2,c2,cur2,k1,_,k2,_⟩
    ·rw[k1] at eq;simp[Value.ownBlock] at eq
    ·rw[h1] at hb
     rw[k1] at eq
     have e1:b1=b:=by simpa[Value.ownBlock] using hb
     have e2:b=b2:=by simpa[Value.ownBlock] using eq
     subst e1 e2
     rw[h2] at k2
     injection k2 with k2
     injection k2 with _ k2
     exact ne k2)
structure OwV(w:World)(base:Nat)(x:Ix):Prop where
 oa:w.ownsRow base 75 2 (.slice x.aa x.b.ac.length x.ca) x.b.ac.length (Pairs.flat x.b.ac)
 oi:w.ownsRow base 76 2 (.slice x.ai x.b.ic.length x.ci) x.b.ic.length (Pairs.flat x.b.ic)
 ob:w.ownsRow base 78 3 (.slice x.ab x.b.bs.length x.cb) x.b.bs.length (Triples.flat3 x.b.bs)
 ol:w.ownsRow base 80 5 (.slice x.al x.b.ls.length x.cl) x.b.ls.length (Tup5.flat5 x.b.ls)
 ot:w.ownsRow base 82 8 (.slice x.ats x.b.ts.length x.ct) x.b.ts.length (Tup8.flat8 x.b.ts)
structure OwMV(w:World)(base:Nat)(x:Ix):Prop where
 oa:w.ownsRow base 75 2 (.slice x.aa x.b.ac.length x.ca) x.b.ac.length (Pairs.flat (AccountMark.marks 1 x.b.ac.length))
 oi:w.ownsRow base 76 2 (.slice x.ai x.b.ic.length x.ci) x.b.ic.length (Pairs.flat (InstrMark.marks (e1 x.b) x.b.ic.length))
 ob:w.ownsRow base 78 3 (.slice x.ab x.b.bs.length x.cb) x.b.bs.length (Triples.flat3 (BalHelp.marks (e2 x.b) x.b.bs.length))
 ol:w.ownsRow base 80 5 (.slice x.al x.b.ls.length x.cl) x.b.ls.length (Tup5.flat5 (LotHelp.marks (e3 x.b) x.b.ls.length))
 ot:w.ownsRow base 82 8 (.slice x.ats x.b.ts.length x.ct) x.b.ts.length (Tup8.flat8 (TradeHelp.marks (e4 x.b) x.b.ts.length))
structure TurnV(x:Ix)(w w':World):Prop where
 os:w'.os=w.os
 tape:w'.tape=w.tape
 output:w'.output=w.output
 size:w.heap.size≤w'.heap.size
 block:∀k,k<w.heap.size→some k≠(.slice x.aa x.b.ac.length x.ca:Value).ownBlock→some k≠(.slice x.ai x.b.ic.length x.ci:Value).ownBlock→some k≠(.slice x.ab x.b.bs.length x.cb:Value).ownBlock→some k≠(.slice x.al x.b.ls.length x.cl:Value).ownBlock→some k≠(.slice x.ats x.b.ts.length x.ct:Value).ownBlock→w'.heap[k]?=w.heap[k]?
theorem TurnV.grown{x:Ix}{w u v:World}{row:Option Nat}(h:TurnV x w u)(k:u.grownBy v row)(hg:row=(.slice x.aa x.b.ac.length x.ca:Value).ownBlock∨row=(.slice x.ai x.b.ic.length x.ci:Value).ownBlock∨row=(.slice x.ab x.b.bs.length x.cb:Value).ownBlock∨row=(.slice x.al x.b.ls.length x.cl:Value).ownBlock∨row=(.slice x.ats x.b.ts.length x.ct:Value).ownBlock):TurnV x w v:=
 ⟨k.os.trans h.os,k.tape.trans h.tape,k.output.trans h.output,Nat.le_trans h.size k.size,fun j hj a b c d e=>(k.block j (Nat.lt_of_lt_of_le hj h.size) (fun q=>by
  rcases hg with r|r|r|r|r
  ·exact a (q.trans r)
  ·exact b (q.trans r)
  ·exact c (q.trans r)
  ·exact d (q.trans r)
  ·exact e (q.trans r))).trans (h.block j hj a b c d e)⟩
theorem TurnV.of{x:Ix}{w w':World}(h:Below w.heap.size w w'):TurnV x w w':=⟨h.os,h.tape,h.output,h.size,fun j hj _ _ _ _ _=>h.block j hj⟩
theorem TurnV.below{x:Ix}{w w':World}{base:Nat}(h:TurnV x w w')(o:OwV w base x)(hb:base≤w.heap.size):Below base w w':=
 ⟨h.os,h.tape,h.output,h.size,fun j hj=>h.block j (by omega) (fun e=>by have:=(World.ownsRow.lt o.oa j e.symm).1;omega) (fun e=>by have:=(World.ownsRow.lt o.oi j e.symm).1;omega) (fun e=>by have:=(World.ownsRow.lt o.ob j e.symm).1;omega) (fun e=>by have:=(World.ownsRow.lt o.ol j e.symm).1;omega) (fun e=>by have:=(World.ownsRow.lt o.ot j e.symm).1;omega)⟩
theorem OwV.step{w w':World}{base:Nat}{x:Ix}(h:OwV w base x)(k:Below w.heap.size w w'):OwV w' base x:=⟨row_step h.oa k,row_step h.oi k,row_step h.ob k,row_step h.ol k,row_step h.ot k⟩
theorem OwMV.step{w w':World}{base:Nat}{x:Ix}(h:OwMV w base x)(k:Below w.heap.size w w'):OwMV w' base x:=⟨row_step h.oa k,row_step h.oi k,row_step h.ob k,row_step h.ol k,row_step h.ot k⟩
theorem OwV.rd{w:World}{base:Nat}{x:Ix}(h:OwV w base x)(hn:Small x.b):RdV w x:=by
 obtain⟨n1,n2,n3,n4,n5⟩:=hn
 refine⟨(SRead13L.addr_of h.oa).1,fun g e=>⟨(SRead13L.addr_of h.oa).2 g e,?_⟩,n1,(SRead13L.addr_of h.oi).1,fun g e=>⟨(SRead13L.addr_of h.oi).2 g e,?_⟩,n2,(SRead13L.addr_of h.ob).1,fun g e=>⟨(SRead13L.addr_of h.ob).2 g e,?_⟩,n3,(SRead13L.addr_of h.ol).1,fun g e=>⟨(SRead13L.addr_of h.ol).2 g e,?_⟩,n4,(SRead13L.addr_of h.ot).1,fun g e=>⟨(SRead13L.addr_of h.ot).2 g e,?_⟩,n5⟩
 ·have o:=h.oa
  rw[e] at o
  exact Pairs.Own.at o
 ·have o:=h.oi
  rw[e] at o
  exact Pairs.Own.at o
 ·have o:=h.ob
  rw[e] at o
  exact Triples.Own3.at o
 ·have o:=h.ol
  rw[e] at o
  exact Tup5.Own5.at o
 ·have o:=h.ot
  rw[e] at o
  exact Tup8.Own8.at o
theorem eqNAccount(w:World)(a1 a2:Option Addr)(c1 c2:Nat):Calls Tryz.prog 46 #[.slice a1 0 c1,.slice a2 0 c2] w fun e w'=>e= .returned (.bool true)∧w'=w:=by
 go_enter Tryz.func46,Tryz.ntmps46
 go_wp2
 go_loopw [5] (fun j wr=>j= .int .i64 0∧wr=w) (fun _ _=>0)
 case atStart=>exact⟨rfl,rfl⟩
 case round=>
  obtain⟨rfl,rfl⟩:=hrel
  go_wp2
  go_ret
  exact⟨rfl,rfl⟩
theorem markNAccount(w:World)(a:Option Addr)(c:Nat)(s:Int):Calls Tryz.prog 53 #[.slice a 0 c,.int .i64 s] w fun e w'=>e= .returned (.int .i64 s)∧w'=w:=by
 go_enter Tryz.func53,Tryz.ntmps53
 go_wp2
 go_loopw [1,5] (fun m j wr=>m= .int .i64 s∧j= .int .i64 0∧wr=w) (fun _ _ _=>0)
 case atStart=>exact⟨rfl,rfl,rfl⟩
 case round=>
  obtain⟨rfl,rfl,rfl⟩:=hrel
  go_wp2
  go_ret
  exact⟨rfl,rfl⟩
theorem heldNAccount(w:World)(a:Option Addr)(c:Nat)(s:Int):Calls Tryz.prog 58 #[.slice a 0 c,.int .i64 s] w fun e w'=>e= .returned (.int .i64 s)∧w'=w:=by
 go_enter Tryz.func58,Tryz.ntmps58
 go_wp2
 go_loopw [1,5] (fun m j wr=>m= .int .i64 s∧j= .int .i64 0∧wr=w) (fun _ _ _=>0)
 case atStart=>exact⟨rfl,rfl,rfl⟩
 case round=>
  obtain⟨rfl,rfl,rfl⟩:=hrel
  go_wp2
  go_ret
  exact⟨rfl,rfl⟩
theorem eqAccount(w:World)(x y:Ix)(hb:y.b=x.b)(hx:RdV w x)(hy:RdV w y):Calls Tryz.prog 46 #[.slice x.aa x.b.ac.length x.ca,.slice y.aa x.b.ac.length y.ca] w fun e w'=>e= .returned (.bool true)∧Below w.heap.size w w':=by
 by_cases z:x.b.ac.length=0
 ·rw[z]
  exact(eqNAccount w _ _ _ _).mono fun e w' ⟨h1,h2⟩=>⟨h1,by rw[h2];exact Below.refl _ _⟩
 ·obtain⟨g1,e1⟩:=hx.ea z
  obtain⟨g2,e2⟩:=hy.ea (by rw[hb];exact z)
  have a1:=hx.ra g1 e1
  have a2:=hy.ra g2 e2
  rw[hb] at a2
  rw[e1,e2]
  exact AccountHelp.eqS w g1 g2 _ _ _ x.b.ac rfl hx.na a1.1 a2.1 a1.2 a2.2
theorem markAccount(w:World)(base n c:Nat)(a:Option Addr)(s:Int)(ps:List (Int×Int))(h20:n≤1048576)(s0:0≤s)(s1:s≤100000000)(ho:w.ownsRow base 75 2 (.slice a n c) n (Pairs.flat ps)):
  Calls Tryz.prog 53 #[.slice a n c,.int .i64 s] w fun e w'=>e= .returned (.int .i64 (s+2*(n:Int)))∧w'.ownsRow base 75 2 (.slice a n c) n (Pairs.flat (AccountMark.marks s n))∧w.grownBy w' (Value.slice a n c).ownBlock:=by
 have ho':=ho
 rcases ho.2 with⟨h1,h2⟩|⟨g,c',cur,h1,_⟩
 ·obtain⟨rfl,_,rfl⟩:a=none∧n=0∧c=0:=by simpa using h1
  subst h2
  exact(markNAccount w _ _ s).mono fun e w' ⟨q1,q2⟩=>⟨by rw[q1];simp,by rw[q2];exact World.ownsRow_nil w base _ _,by rw[q2];exact World.grownBy.refl _ _⟩
 ·obtain⟨rfl,rfl⟩:a=some ⟨g,0,none⟩∧c=c':=by simpa using h1
  exact AccountMark.markS w base g n c s ps h20 s0 s1 ho'
theorem heldAccount(w:World)(base n c:Nat)(a:Option Addr)(s:Int)(h20:n≤1048576)(s0:0≤s)(s1:s≤100000000)(ho:w.ownsRow base 75 2 (.slice a n c) n (Pairs.flat (AccountMark.marks s n))):
  Calls Tryz.prog 58 #[.slice a n c,.int .i64 s] w fun e w'=>e= .returned (.int .i64 (s+2*(n:Int)))∧w'=w:=by
 have ho':=ho
 rcases ho.2 with⟨h1,h2⟩|⟨g,c',cur,h1,_⟩
 ·obtain⟨rfl,_,rfl⟩:a=none∧n=0∧c=0:=by simpa using h1
  subst h2
  exact(heldNAccount w _ _ s).mono fun e w' ⟨q1,q2⟩=>⟨by rw[q1];simp,q2⟩
 ·obtain⟨rfl,rfl⟩:a=some ⟨g,0,none⟩∧c=c':=by simpa using h1
  exact AccountMark.heldS w g n c s h20 s0 s1 (Pairs.Own.at ho')
theorem eqNInstr(w:World)(a1 a2:Option Addr)(c1 c2:Nat):Calls Tryz.prog 47 #[.slice a1 0 c1,.slice a2 0 c2] w fun e w'=>e= .returned (.bool true)∧w'=w:=by
 go_enter Tryz.func47,Tryz.ntmps47
 go_wp2
 go_loopw [5] (fun j wr=>j= .int .i64 0∧wr=w) (fun _ _=>0)
 case atStart=>exact⟨rfl,rfl⟩
 case round=>
  obtain⟨rfl,rfl⟩:=hrel
  go_wp2
  go_ret
  exact⟨rfl,rfl⟩
theorem markNInstr(w:World)(a:Option Addr)(c:Nat)(s:Int):Calls Tryz.prog 54 #[.slice a 0 c,.int .i64 s] w fun e w'=>e= .returned (.int .i64 s)∧w'=w:=by
 go_enter Tryz.func54,Tryz.ntmps54
 go_wp2
 go_loopw [1,5] (fun m j wr=>m= .int .i64 s∧j= .int .i64 0∧wr=w) (fun _ _ _=>0)
 case atStart=>exact⟨rfl,rfl,rfl⟩
 case round=>
  obtain⟨rfl,rfl,rfl⟩:=hrel
  go_wp2
  go_ret
  exact⟨rfl,rfl⟩
theorem heldNInstr(w:World)(a:Option Addr)(c:Nat)(s:Int):Calls Tryz.prog 59 #[.slice a 0 c,.int .i64 s] w fun e w'=>e= .returned (.int .i64 s)∧w'=w:=by
 go_enter Tryz.func59,Tryz.ntmps59
 go_wp2
 go_loopw [1,5] (fun m j wr=>m= .int .i64 s∧j= .int .i64 0∧wr=w) (fun _ _ _=>0)
 case atStart=>exact⟨rfl,rfl,rfl⟩
 case round=>
  obtain⟨rfl,rfl,rfl⟩:=hrel
  go_wp2
  go_ret
  exact⟨rfl,rfl⟩
theorem eqInstr(w:World)(x y:Ix)(hb:y.b=x.b)(hx:RdV w x)(hy:RdV w y):Calls Tryz.prog 47 #[.slice x.ai x.b.ic.length x.ci,.slice y.ai x.b.ic.length y.ci] w fun e w'=>e= .returned (.bool true)∧Below w.heap.size w w':=by
 by_cases z:x.b.ic.length=0
 ·rw[z]
  exact(eqNInstr w _ _ _ _).mono fun e w' ⟨h1,h2⟩=>⟨h1,by rw[h2];exact Below.refl _ _⟩
 ·obtain⟨g1,e1⟩:=hx.ei z
  obtain⟨g2,e2⟩:=hy.ei (by rw[hb];exact z)
  have a1:=hx.ri g1 e1
  have a2:=hy.ri g2 e2
  rw[hb] at a2
  rw[e1,e2]
  exact InstrHelp.eqS w g1 g2 _ _ _ x.b.ic rfl hx.ni a1.1 a2.1 a1.2 a2.2
theorem markInstr(w:World)(base n c:Nat)(a:Option Addr)(s:Int)(ps:List (Int×Int))(h20:n≤1048576)(s0:0≤s)(s1:s≤100000000)(ho:w.ownsRow base 76 2 (.slice a n c) n (Pairs.flat ps)):
  Calls Tryz.prog 54 #[.slice a n c,.int .i64 s] w fun e w'=>e= .returned (.int .i64 (s+2*(n:Int)))∧w'.ownsRow base 76 2 (.slice a n c) n (Pairs.flat (InstrMark.marks s n))∧w.grownBy w' (Value.slice a n c).ownBlock:=by
 have ho':=ho
 rcases ho.2 with⟨h1,h2⟩|⟨g,c',cur,h1,_⟩
 ·obtain⟨rfl,_,rfl⟩:a=none∧n=0∧c=0:=by simpa using h1
  subst h2
  exact(markNInstr w _ _ s).mono fun e w' ⟨q1,q2⟩=>⟨by rw[q1];simp,by rw[q2];exact World.ownsRow_nil w base _ _,by rw[q2];exact World.grownBy.refl _ _⟩
 ·obtain⟨rfl,rfl⟩:a=some ⟨g,0,none⟩∧c=c':=by simpa using h1
  exact InstrMark.markS w base g n c s ps h20 s0 s1 ho'
theorem heldInstr(w:World)(base n c:Nat)(a:Option Addr)(s:Int)(h20:n≤1048576)(s0:0≤s)(s1:s≤100000000)(ho:w.ownsRow base 76 2 (.slice a n c) n (Pairs.flat (InstrMark.marks s n))):
  Calls Tryz.prog 59 #[.slice a n c,.int .i64 s] w fun e w'=>e= .returned (.int .i64 (s+2*(n:Int)))∧w'=w:=by
 have ho':=ho
 rcases ho.2 with⟨h1,h2⟩|⟨g,c',cur,h1,_⟩
 ·obtain⟨rfl,_,rfl⟩:a=none∧n=0∧c=0:=by simpa using h1
  subst h2
  exact(heldNInstr w _ _ s).mono fun e w' ⟨q1,q2⟩=>⟨by rw[q1];simp,q2⟩
 ·obtain⟨rfl,rfl⟩:a=some ⟨g,0,none⟩∧c=c':=by simpa using h1
  exact InstrMark.heldS w g n c s h20 s0 s1 (Pairs.Own.at ho')
theorem eqNBal(w:World)(a1 a2:Option Addr)(c1 c2:Nat):Calls Tryz.prog 48 #[.slice a1 0 c1,.slice a2 0 c2] w fun e w'=>e= .returned (.bool true)∧w'=w:=by
 go_enter Tryz.func48,Tryz.ntmps48
 go_wp2
 go_loopw [5] (fun j wr=>j= .int .i64 0∧wr=w) (fun _ _=>0)
 case atStart=>exact⟨rfl,rfl⟩
 case round=>
  obtain⟨rfl,rfl⟩:=hrel
  go_wp2
  go_ret
  exact⟨rfl,rfl⟩
theorem markNBal(w:World)(a:Option Addr)(c:Nat)(s:Int):Calls Tryz.prog 55 #[.slice a 0 c,.int .i64 s] w fun e w'=>e= .returned (.int .i64 s)∧w'=w:=by
 go_enter Tryz.func55,Tryz.ntmps55
 go_wp2
 go_loopw [1,5] (fun m j wr=>m= .int .i64 s∧j= .int .i64 0∧wr=w) (fun _ _ _=>0)
 case atStart=>exact⟨rfl,rfl,rfl⟩
 case round=>
  obtain⟨rfl,rfl,rfl⟩:=hrel
  go_wp2
  go_ret
  exact⟨rfl,rfl⟩
theorem heldNBal(w:World)(a:Option Addr)(c:Nat)(s:Int):Calls Tryz.prog 60 #[.slice a 0 c,.int .i64 s] w fun e w'=>e= .returned (.int .i64 s)∧w'=w:=by
 go_enter Tryz.func60,Tryz.ntmps60
 go_wp2
 go_loopw [1,5] (fun m j wr=>m= .int .i64 s∧j= .int .i64 0∧wr=w) (fun _ _ _=>0)
 case atStart=>exact⟨rfl,rfl,rfl⟩
 case round=>
  obtain⟨rfl,rfl,rfl⟩:=hrel
  go_wp2
  go_ret
  exact⟨rfl,rfl⟩
theorem eqBal(w:World)(x y:Ix)(hb:y.b=x.b)(hx:RdV w x)(hy:RdV w y):Calls Tryz.prog 48 #[.slice x.ab x.b.bs.length x.cb,.slice y.ab x.b.bs.length y.cb] w fun e w'=>e= .returned (.bool true)∧Below w.heap.size w w':=by
 by_cases z:x.b.bs.length=0
 ·rw[z]
  exact(eqNBal w _ _ _ _).mono fun e w' ⟨h1,h2⟩=>⟨h1,by rw[h2];exact Below.refl _ _⟩
 ·obtain⟨g1,e1⟩:=hx.eb z
  obtain⟨g2,e2⟩:=hy.eb (by rw[hb];exact z)
  have a1:=hx.rb g1 e1
  have a2:=hy.rb g2 e2
  rw[hb] at a2
  rw[e1,e2]
  exact BalHelp.eqS w g1 g2 _ _ _ x.b.bs rfl hx.nb a1.1 a2.1 a1.2 a2.2
theorem markBal(w:World)(base n c:Nat)(a:Option Addr)(s:Int)(ps:List Bals.T3)(h20:n≤1048576)(s0:0≤s)(s1:s≤100000000)(ho:w.ownsRow base 78 3 (.slice a n c) n (Triples.flat3 ps)):
  Calls Tryz.prog 55 #[.slice a n c,.int .i64 s] w fun e w'=>e= .returned (.int .i64 (s+3*(n:Int)))∧w'.ownsRow base 78 3 (.slice a n c) n (Triples.flat3 (BalHelp.marks s n))∧w.grownBy w' (Value.slice a n c).ownBlock:=by
 have ho':=ho
 rcases ho.2 with⟨h1,h2⟩|⟨g,c',cur,h1,_⟩
 ·obtain⟨rfl,_,rfl⟩:a=none∧n=0∧c=0:=by simpa using h1
  subst h2
  exact(markNBal w _ _ s).mono fun e w' ⟨q1,q2⟩=>⟨by rw[q1];simp,by rw[q2];exact World.ownsRow_nil w base _ _,by rw[q2];exact World.grownBy.refl _ _⟩
 ·obtain⟨rfl,rfl⟩:a=some ⟨g,0,none⟩∧c=c':=by simpa using h1
  exact BalHelp.markS w base g n c s ps h20 s0 s1 ho'
theorem heldBal(w:World)(base n c:Nat)(a:Option Addr)(s:Int)(h20:n≤1048576)(s0:0≤s)(s1:s≤100000000)(ho:w.ownsRow base 78 3 (.slice a n c) n (Triples.flat3 (BalHelp.marks s n))):
  Calls Tryz.prog 60 #[.slice a n c,.int .i64 s] w fun e w'=>e= .returned (.int .i64 (s+3*(n:Int)))∧w'=w:=by
 have ho':=ho
 rcases ho.2 with⟨h1,h2⟩|⟨g,c',cur,h1,_⟩
 ·obtain⟨rfl,_,rfl⟩:a=none∧n=0∧c=0:=by simpa using h1
  subst h2
  exact(heldNBal w _ _ s).mono fun e w' ⟨q1,q2⟩=>⟨by rw[q1];simp,q2⟩
 ·obtain⟨rfl,rfl⟩:a=some ⟨g,0,none⟩∧c=c':=by simpa using h1
  exact BalHeld.heldS w g n c s h20 s0 s1 (Triples.Own3.at ho')
theorem eqNLot(w:World)(a1 a2:Option Addr)(c1 c2:Nat):Calls Tryz.prog 49 #[.slice a1 0 c1,.slice a2 0 c2] w fun e w'=>e= .returned (.bool true)∧w'=w:=by
 go_enter Tryz.func49,Tryz.ntmps49
 go_wp2
 go_loopw [5] (fun j wr=>j= .int .i64 0∧wr=w) (fun _ _=>0)
 case atStart=>exact⟨rfl,rfl⟩
 case round=>
  obtain⟨rfl,rfl⟩:=hrel
  go_wp2
  go_ret
  exact⟨rfl,rfl⟩
theorem markNLot(w:World)(a:Option Addr)(c:Nat)(s:Int):Calls Tryz.prog 56 #[.slice a 0 c,.int .i64 s] w fun e w'=>e= .returned (.int .i64 s)∧w'=w:=by
 go_enter Tryz.func56,Tryz.ntmps56
 go_wp2
 go_loopw [1,5] (fun m j wr=>m= .int .i64 s∧j= .int .i64 0∧wr=w) (fun _ _ _=>0)
 case atStart=>exact⟨rfl,rfl,rfl⟩
 case round=>
  obtain⟨rfl,rfl,rfl⟩:=hrel
  go_wp2
  go_ret
  exact⟨rfl,rfl⟩
theorem heldNLot(w:World)(a:Option Addr)(c:Nat)(s:Int):Calls Tryz.prog 61 #[.slice a 0 c,.int .i64 s] w fun e w'=>e= .returned (.int .i64 s)∧w'=w:=by
 go_enter Tryz.func61,Tryz.ntmps61
 go_wp2
 go_loopw [1,5] (fun m j wr=>m= .int .i64 s∧j= .int .i64 0∧wr=w) (fun _ _ _=>0)
 case atStart=>exact⟨rfl,rfl,rfl⟩
 case round=>
  obtain⟨rfl,rfl,rfl⟩:=hrel
  go_wp2
  go_ret
  exact⟨rfl,rfl⟩
theorem eqLot(w:World)(x y:Ix)(hb:y.b=x.b)(hx:RdV w x)(hy:RdV w y):Calls Tryz.prog 49 #[.slice x.al x.b.ls.length x.cl,.slice y.al x.b.ls.length y.cl] w fun e w'=>e= .returned (.bool true)∧Below w.heap.size w w':=by
 by_cases z:x.b.ls.length=0
 ·rw[z]
  exact(eqNLot w _ _ _ _).mono fun e w' ⟨h1,h2⟩=>⟨h1,by rw[h2];exact Below.refl _ _⟩
 ·obtain⟨g1,e1⟩:=hx.el z
  obtain⟨g2,e2⟩:=hy.el (by rw[hb];exact z)
  have a1:=hx.rl g1 e1
  have a2:=hy.rl g2 e2
  rw[hb] at a2
  rw[e1,e2]
  exact LotHelp.eqS w g1 g2 _ _ _ x.b.ls rfl hx.nl a1.1 a2.1 a1.2 a2.2
theorem markLot(w:World)(base n c:Nat)(a:Option Addr)(s:Int)(ps:List Tup5.T5)(h20:n≤1048576)(s0:0≤s)(s1:s≤100000000)(ho:w.ownsRow base 80 5 (.slice a n c) n (Tup5.flat5 ps)):
  Calls Tryz.prog 56 #[.slice a n c,.int .i64 s] w fun e w'=>e= .returned (.int .i64 (s+5*(n:Int)))∧w'.ownsRow base 80 5 (.slice a n c) n (Tup5.flat5 (LotHelp.marks s n))∧w.grownBy w' (Value.slice a n c).ownBlock:=by
 have ho':=ho
 rcases ho.2 with⟨h1,h2⟩|⟨g,c',cur,h1,_⟩
 ·obtain⟨rfl,_,rfl⟩:a=none∧n=0∧c=0:=by simpa using h1
  subst h2
  exact(markNLot w _ _ s).mono fun e w' ⟨q1,q2⟩=>⟨by rw[q1];simp,by rw[q2];exact World.ownsRow_nil w base _ _,by rw[q2];exact World.grownBy.refl _ _⟩
 ·obtain⟨rfl,rfl⟩:a=some ⟨g,0,none⟩∧c=c':=by simpa using h1
  exact LotHelp.markS w base g n c s ps h20 s0 s1 ho'
theorem heldLot(w:World)(base n c:Nat)(a:Option Addr)(s:Int)(h20:n≤1048576)(s0:0≤s)(s1:s≤100000000)(ho:w.ownsRow base 80 5 (.slice a n c) n (Tup5.flat5 (LotHelp.marks s n))):
  Calls Tryz.prog 61 #[.slice a n c,.int .i64 s] w fun e w'=>e= .returned (.int .i64 (s+5*(n:Int)))∧w'=w:=by
 have ho':=ho
 rcases ho.2 with⟨h1,h2⟩|⟨g,c',cur,h1,_⟩
 ·obtain⟨rfl,_,rfl⟩:a=none∧n=0∧c=0:=by simpa using h1
  subst h2
  exact(heldNLot w _ _ s).mono fun e w' ⟨q1,q2⟩=>⟨by rw[q1];simp,q2⟩
 ·obtain⟨rfl,rfl⟩:a=some ⟨g,0,none⟩∧c=c':=by simpa using h1
  exact LotHeld.heldS w g n c s h20 s0 s1 (Tup5.Own5.at ho')
theorem eqNTrade(w:World)(a1 a2:Option Addr)(c1 c2:Nat):Calls Tryz.prog 50 #[.slice a1 0 c1,.slice a2 0 c2] w fun e w'=>e= .returned (.bool true)∧w'=w:=by
 go_enter Tryz.func50,Tryz.ntmps50
 go_wp2
 go_loopw [5] (fun j wr=>j= .int .i64 0∧wr=w) (fun _ _=>0)
 case atStart=>exact⟨rfl,rfl⟩
 case round=>
  obtain⟨rfl,rfl⟩:=hrel
  go_wp2
  go_ret
  exact⟨rfl,rfl⟩
theorem markNTrade(w:World)(a:Option Addr)(c:Nat)(s:Int):Calls Tryz.prog 57 #[.slice a 0 c,.int .i64 s] w fun e w'=>e= .returned (.int .i64 s)∧w'=w:=by
 go_enter Tryz.func57,Tryz.ntmps57
 go_wp2
 go_loopw [1,5] (fun m j wr=>m= .int .i64 s∧j= .int .i64 0∧wr=w) (fun _ _ _=>0)
 case atStart=>exact⟨rfl,rfl,rfl⟩
 case round=>
  obtain⟨rfl,rfl,rfl⟩:=hrel
  go_wp2
  go_ret
  exact⟨rfl,rfl⟩
theorem heldNTrade(w:World)(a:Option Addr)(c:Nat)(s:Int):Calls Tryz.prog 62 #[.slice a 0 c,.int .i64 s] w fun e w'=>e= .returned (.int .i64 s)∧w'=w:=by
 go_enter Tryz.func62,Tryz.ntmps62
 go_wp2
 go_loopw [1,5] (fun m j wr=>m= .int .i64 s∧j= .int .i64 0∧wr=w) (fun _ _ _=>0)
 case atStart=>exact⟨rfl,rfl,rfl⟩
 case round=>
  obtain⟨rfl,rfl,rfl⟩:=hrel
  go_wp2
  go_ret
  exact⟨rfl,rfl⟩
theorem eqTrade(w:World)(x y:Ix)(hb:y.b=x.b)(hx:RdV w x)(hy:RdV w y):Calls Tryz.prog 50 #[.slice x.ats x.b.ts.length x.ct,.slice y.ats x.b.ts.length y.ct] w fun e w'=>e= .returned (.bool true)∧Below w.heap.size w w':=by
 by_cases z:x.b.ts.length=0
 ·rw[z]
  exact(eqNTrade w _ _ _ _).mono fun e w' ⟨h1,h2⟩=>⟨h1,by rw[h2];exact Below.refl _ _⟩
 ·obtain⟨g1,e1⟩:=hx.et z
  obtain⟨g2,e2⟩:=hy.et (by rw[hb];exact z)
  have a1:=hx.rt g1 e1
  have a2:=hy.rt g2 e2
  rw[hb] at a2
  rw[e1,e2]
  exact TradeHelp.eqS w g1 g2 _ _ _ x.b.ts rfl hx.nt a1.1 a2.1 a1.2 a2.2
theorem markTrade(w:World)(base n c:Nat)(a:Option Addr)(s:Int)(ps:List Tup8.T8)(h20:n≤1048576)(s0:0≤s)(s1:s≤100000000)(ho:w.ownsRow base 82 8 (.slice a n c) n (Tup8.flat8 ps)):
  Calls Tryz.prog 57 #[.slice a n c,.int .i64 s] w fun e w'=>e= .returned (.int .i64 (s+8*(n:Int)))∧w'.ownsRow base 82 8 (.slice a n c) n (Tup8.flat8 (TradeHelp.marks s n))∧w.grownBy w' (Value.slice a n c).ownBlock:=by
 have ho':=ho
 rcases ho.2 with⟨h1,h2⟩|⟨g,c',cur,h1,_⟩
 ·obtain⟨rfl,_,rfl⟩:a=none∧n=0∧c=0:=by simpa using h1
  subst h2
  exact(markNTrade w _ _ s).mono fun e w' ⟨q1,q2⟩=>⟨by rw[q1];simp,by rw[q2];exact World.ownsRow_nil w base _ _,by rw[q2];exact World.grownBy.refl _ _⟩
 ·obtain⟨rfl,rfl⟩:a=some ⟨g,0,none⟩∧c=c':=by simpa using h1
  exact TradeHelp.markS w base g n c s ps h20 s0 s1 ho'
theorem heldTrade(w:World)(base n c:Nat)(a:Option Addr)(s:Int)(h20:n≤1048576)(s0:0≤s)(s1:s≤100000000)(ho:w.ownsRow base 82 8 (.slice a n c) n (Tup8.flat8 (TradeHelp.marks s n))):
  Calls Tryz.prog 62 #[.slice a n c,.int .i64 s] w fun e w'=>e= .returned (.int .i64 (s+8*(n:Int)))∧w'=w:=by
 have ho':=ho
 rcases ho.2 with⟨h1,h2⟩|⟨g,c',cur,h1,_⟩
 ·obtain⟨rfl,_,rfl⟩:a=none∧n=0∧c=0:=by simpa using h1
  subst h2
  exact(heldNTrade w _ _ s).mono fun e w' ⟨q1,q2⟩=>⟨by rw[q1];simp,q2⟩
 ·obtain⟨rfl,rfl⟩:a=some ⟨g,0,none⟩∧c=c':=by simpa using h1
  exact TradeHeld.heldS w g n c s h20 s0 s1 (Tup8.Own8.at ho')
structure TwoV(w W:World)(x y:Ix):Prop where
 rx:RdV W x
 ry:RdV W y
 cx:ClV W w.heap.size x
 cy:ClV W (w.heap.size+1) y
 b:Below w.heap.size w W
 s:w.heap.size+1<W.heap.size
theorem TwoV.step{w W W':World}{x y:Ix}(h:TwoV w W x y)(k:Below W.heap.size W W'):TwoV w W' x y:=
 ⟨h.rx.below k,h.ry.below k,h.cx.below k (by have:=h.s;omega),h.cy.below k h.s,h.b.trans (k.mono h.b.size),Nat.lt_of_lt_of_le h.s k.size⟩
theorem boxedV(w:World)(x:Ix)(e:TypeId):ClV (w.alloc (.cells #[.slice x.aa x.b.ac.length x.ca,.slice x.ai x.b.ic.length x.ci,.slice x.ab x.b.bs.length x.cb,.slice x.al x.b.ls.length x.cl,.slice x.ats x.b.ts.length x.ct,.int .i64 x.b.lot] e)) w.heap.size x:=⟨by simp,by simp,by simp,by simp,by simp,by simp⟩
theorem TwoV.start{w:World}{x y:Ix}(hx:RdV w x)(hy:RdV w y)(e:TypeId):TwoV w ((w.alloc (.cells #[.slice x.aa x.b.ac.length x.ca,.slice x.ai x.b.ic.length x.ci,.slice x.ab x.b.bs.length x.cb,.slice x.al x.b.ls.length x.cl,.slice x.ats x.b.ts.length x.ct,.int .i64 x.b.lot] e)).alloc (.cells #[.slice y.aa y.b.ac.length y.ca,.slice y.ai y.b.ic.length y.ci,.slice y.ab y.b.bs.length y.cb,.slice y.al y.b.ls.length y.cl,.slice y.ats y.b.ts.length y.ct,.int .i64 y.b.lot] e)) x y:=by
 have c:=boxedV (w.alloc (.cells #[.slice x.aa x.b.ac.length x.ca,.slice x.ai x.b.ic.length x.ci,.slice x.ab x.b.bs.length x.cb,.slice x.al x.b.ls.length x.cl,.slice x.ats x.b.ts.length x.ct,.int .i64 x.b.lot] e)) y e
 have s:(w.alloc (.cells #[.slice x.aa x.b.ac.length x.ca,.slice x.ai x.b.ic.length x.ci,.slice x.ab x.b.bs.length x.cb,.slice x.al x.b.ls.length x.cl,.slice x.ats x.b.ts.length x.ct,.int .i64 x.b.lot] e)).heap.size=w.heap.size+1:=by simp
 rw[s] at c
 have b1:=one_more w (.cells #[.slice x.aa x.b.ac.length x.ca,.slice x.ai x.b.ic.length x.ci,.slice x.ab x.b.bs.length x.cb,.slice x.al x.b.ls.length x.cl,.slice x.ats x.b.ts.length x.ct,.int .i64 x.b.lot] e)
 have b2:=one_more (w.alloc (.cells #[.slice x.aa x.b.ac.length x.ca,.slice x.ai x.b.ic.length x.ci,.slice x.ab x.b.bs.length x.cb,.slice x.al x.b.ls.length x.cl,.slice x.ats x.b.ts.length x.ct,.int .i64 x.b.lot] e)) (.cells #[.slice y.aa y.b.ac.length y.ca,.slice y.ai y.b.ic.length y.ci,.slice y.ab y.b.bs.length y.cb,.slice y.al y.b.ls.length y.cl,.slice y.ats y.b.ts.length y.ct,.int .i64 y.b.lot] e)
 exact⟨(hx.below b1).below b2,(hy.below b1).below b2,(boxedV w x e).below b2 (by simp),c,b1.trans (b2.mono b1.size),by simp⟩
theorem eqBV(w:World)(x y:Ix)(hb:y.b=x.b)(hx:RdV w x)(hy:RdV w y):
  Calls Tryz.prog 25 #[.agg #[.slice x.aa x.b.ac.length x.ca,.slice x.ai x.b.ic.length x.ci,.slice x.ab x.b.bs.length x.cb,.slice x.al x.b.ls.length x.cl,.slice x.ats x.b.ts.length x.ct,.int .i64 x.b.lot],.agg #[.slice y.aa y.b.ac.length y.ca,.slice y.ai y.b.ic.length y.ci,.slice y.ab y.b.bs.length y.cb,.slice y.al y.b.ls.length y.cl,.slice y.ats y.b.ts.length y.ct,.int .i64 y.b.lot]] w fun e w'=>e= .returned (.bool true)∧Below w.heap.size w w':=by
 have T0:=zh (TwoV.start hx hy 32)
 have HB:=zh hb
 obtain⟨aa,ca,ai,ci,ab,cb,al,cl,ats,ct,b⟩:=y
 obtain rfl:b=x.b:=hb
 clear hx hy
 go_enter Tryz.func25,Tryz.ntmps25
 go_wp2_with fail
 refine(eqAccount _ x ⟨aa,ca,ai,ci,ab,cb,al,cl,ats,ct,x.b⟩ rfl (zu T0).rx (zu T0).ry).mono ?_
 rintro e w1 ⟨rfl,bb⟩
 have T1:=zh ((zu T0).step bb)
 clear bb
 have p1:=(zu T1).cx.c1
 have r1:=(zu T1).cy.c1
 go_wp2_with fail
 refine(eqInstr _ x ⟨aa,ca,ai,ci,ab,cb,al,cl,ats,ct,x.b⟩ rfl (zu T1).rx (zu T1).ry).mono ?_
 rintro e w2 ⟨rfl,bb⟩
 have T2:=zh ((zu T1).step bb)
 clear bb
 have p2:=(zu T2).cx.c2
 have r2:=(zu T2).cy.c2
 go_wp2_with fail
 refine(eqBal _ x ⟨aa,ca,ai,ci,ab,cb,al,cl,ats,ct,x.b⟩ rfl (zu T2).rx (zu T2).ry).mono ?_
 rintro e w3 ⟨rfl,bb⟩
 have T3:=zh ((zu T2).step bb)
 clear bb
 have p3:=(zu T3).cx.c3
 have r3:=(zu T3).cy.c3
 go_wp2_with fail
 refine(eqLot _ x ⟨aa,ca,ai,ci,ab,cb,al,cl,ats,ct,x.b⟩ rfl (zu T3).rx (zu T3).ry).mono ?_
 rintro e w4 ⟨rfl,bb⟩
 have T4:=zh ((zu T3).step bb)
 clear bb
 have p4:=(zu T4).cx.c4
 have r4:=(zu T4).cy.c4
 go_wp2_with fail
 refine(eqTrade _ x ⟨aa,ca,ai,ci,ab,cb,al,cl,ats,ct,x.b⟩ rfl (zu T4).rx (zu T4).ry).mono ?_
 rintro e w5 ⟨rfl,bb⟩
 have T5:=zh ((zu T4).step bb)
 clear bb
 have p5:=(zu T5).cx.c5
 have r5:=(zu T5).cy.c5
 go_wp2
 go_ret
 exact⟨rfl,(zu T5).b⟩
theorem markBV(w:World)(base:Nat)(x:Ix)(h:OwV w base x)(hb:base≤w.heap.size)(hs:Small x.b):
  Calls Tryz.prog 28 #[.agg #[.slice x.aa x.b.ac.length x.ca,.slice x.ai x.b.ic.length x.ci,.slice x.ab x.b.bs.length x.cb,.slice x.al x.b.ls.length x.cl,.slice x.ats x.b.ts.length x.ct,.int .i64 x.b.lot],.int .i64 1] w fun e w'=>e= .returned (.int .i64 (e5 x.b))∧OwMV w' base x∧TurnV x w w':=by
 obtain⟨⟨l1,u1⟩,⟨l2,u2⟩,⟨l3,u3⟩,⟨l4,u4⟩,⟨l5,u5⟩⟩:=e_bd hs
 obtain⟨na,ni,nb,nl,nt⟩:=hs
 have za:=zh (show some w.heap.size≠(Value.slice x.aa x.b.ac.length x.ca).ownBlock from fun e=>by have:=(World.ownsRow.lt h.oa _ e.symm).2;omega)
 have Oa:=zh (row_step h.oa (one_more w (.cells #[.slice x.aa x.b.ac.length x.ca,.slice x.ai x.b.ic.length x.ci,.slice x.ab x.b.bs.length x.cb,.slice x.al x.b.ls.length x.cl,.slice x.ats x.b.ts.length x.ct,.int .i64 x.b.lot] 32)))
 have zi:=zh (show some w.heap.size≠(Value.slice x.ai x.b.ic.length x.ci).ownBlock from fun e=>by have:=(World.ownsRow.lt h.oi _ e.symm).2;omega)
 have Oi:=zh (row_step h.oi (one_more w (.cells #[.slice x.aa x.b.ac.length x.ca,.slice x.ai x.b.ic.length x.ci,.slice x.ab x.b.bs.length x.cb,.slice x.al x.b.ls.length x.cl,.slice x.ats x.b.ts.length x.ct,.int .i64 x.b.lot] 32)))
 have zb:=zh (show some w.heap.size≠(Value.slice x.ab x.b.bs.length x.cb).ownBlock from fun e=>by have:=(World.ownsRow.lt h.ob _ e.symm).2;omega)
 have Ob:=zh (row_step h.ob (one_more w (.cells #[.slice x.aa x.b.ac.length x.ca,.slice x.ai x.b.ic.length x.ci,.slice x.ab x.b.bs.length x.cb,.slice x.al x.b.ls.length x.cl,.slice x.ats x.b.ts.length x.ct,.int .i64 x.b.lot] 32)))
 have zl:=zh (show some w.heap.size≠(Value.slice x.al x.b.ls.length x.cl).ownBlock from fun e=>by have:=(World.ownsRow.lt h.ol _ e.symm).2;omega)
 have Ol:=zh (row_step h.ol (one_more w (.cells #[.slice x.aa x.b.ac.length x.ca,.slice x.ai x.b.ic.length x.ci,.slice x.ab x.b.bs.length x.cb,.slice x.al x.b.ls.length x.cl,.slice x.ats x.b.ts.length x.ct,.int .i64 x.b.lot] 32)))
 have zt:=zh (show some w.heap.size≠(Value.slice x.ats x.b.ts.length x.ct).ownBlock from fun e=>by have:=(World.ownsRow.lt h.ot _ e.symm).2;omega)
 have Ot:=zh (row_step h.ot (one_more w (.cells #[.slice x.aa x.b.ac.length x.ca,.slice x.ai x.b.ic.length x.ci,.slice x.ab x.b.bs.length x.cb,.slice x.al x.b.ls.length x.cl,.slice x.ats x.b.ts.length x.ct,.int .i64 x.b.lot] 32)))
 have B0:=zh (show TurnV x w (w.alloc (.cells #[.slice x.aa x.b.ac.length x.ca,.slice x.ai x.b.ic.length x.ci,.slice x.ab x.b.bs.length x.cb,.slice x.al x.b.ls.length x.cl,.slice x.ats x.b.ts.length x.ct,.int .i64 x.b.lot] 32)) from TurnV.of (one_more _ _))
 have C0:=zh (boxedV w x 32)
 clear h
 go_enter Tryz.func28,Tryz.ntmps28
 go_wp2_with fail
 refine(markAccount _ base _ x.ca x.aa 1 x.b.ac na (by omega) (by omega) (zu Oa)).mono ?_
 rintro e w1 ⟨he,o,gr⟩
 replace he:e= .returned (.int .i64 (e1 x.b)):=he
 subst he
 have B1:=zh ((zu B0).grown gr (.inl rfl))
 have C1:=zh (show ClV w1 w.heap.size x from⟨gr.cell (zu C0).c0 (zu za),gr.cell (zu C0).c1 (zu za),gr.cell (zu C0).c2 (zu za),gr.cell (zu C0).c3 (zu za),gr.cell (zu C0).c4 (zu za),gr.cell (zu C0).c5 (zu za)⟩)
 have Ni:=zh (other (zu Oi) (zu Oa) (by decide) gr)
 have Nb:=zh (other (zu Ob) (zu Oa) (by decide) gr)
 have Nl:=zh (other (zu Ol) (zu Oa) (by decide) gr)
 have Nt:=zh (other (zu Ot) (zu Oa) (by decide) gr)
 replace Oa:=zh o
 replace Oi:=Ni
 clear Ni
 replace Ob:=Nb
 clear Nb
 replace Ol:=Nl
 clear Nl
 replace Ot:=Nt
 clear Nt
 clear o gr
 have p1:=(zu C1).c1
 go_wp2_with fail
 refine(markInstr _ base _ x.ci x.ai (e1 x.b) x.b.ic ni (by omega) (by omega) (zu Oi)).mono ?_
 rintro e w2 ⟨he,o,gr⟩
 replace he:e= .returned (.int .i64 (e2 x.b)):=he
 subst he
 have B2:=zh ((zu B1).grown gr (.inr (.inl rfl)))
 have C2:=zh (show ClV w2 w.heap.size x from⟨gr.cell (zu C1).c0 (zu zi),gr.cell (zu C1).c1 (zu zi),gr.cell (zu C1).c2 (zu zi),gr.cell (zu C1).c3 (zu zi),gr.cell (zu C1).c4 (zu zi),gr.cell (zu C1).c5 (zu zi)⟩)
 have Na:=zh (other (zu Oa) (zu Oi) (by decide) gr)
 have Nb:=zh (other (zu Ob) (zu Oi) (by decide) gr)
 have Nl:=zh (other (zu Ol) (zu Oi) (by decide) gr)
 have Nt:=zh (other (zu Ot) (zu Oi) (by decide) gr)
 replace Oi:=zh o
 replace Oa:=Na
 clear Na
 replace Ob:=Nb
 clear Nb
 replace Ol:=Nl
 clear Nl
 replace Ot:=Nt
 clear Nt
 clear o gr
 have p2:=(zu C2).c2
 go_wp2_with fail
 refine(markBal _ base _ x.cb x.ab (e2 x.b) x.b.bs nb (by omega) (by omega) (zu Ob)).mono ?_
 rintro e w3 ⟨he,o,gr⟩
 replace he:e= .returned (.int .i64 (e3 x.b)):=he
 subst he
 have B3:=zh ((zu B2).grown gr (.inr (.inr (.inl rfl))))
 have C3:=zh (show ClV w3 w.heap.size x from⟨gr.cell (zu C2).c0 (zu zb),gr.cell (zu C2).c1 (zu zb),gr.cell (zu C2).c2 (zu zb),gr.cell (zu C2).c3 (zu zb),gr.cell (zu C2).c4 (zu zb),gr.cell (zu C2).c5 (zu zb)⟩)
 have Na:=zh (other (zu Oa) (zu Ob) (by decide) gr)
 have Ni:=zh (other (zu Oi) (zu Ob) (by decide) gr)
 have Nl:=zh (other (zu Ol) (zu Ob) (by decide) gr)
 have Nt:=zh (other (zu Ot) (zu Ob) (by decide) gr)
 replace Ob:=zh o
 replace Oa:=Na
 clear Na
 replace Oi:=Ni
 clear Ni
 replace Ol:=Nl
 clear Nl
 replace Ot:=Nt
 clear Nt
 clear o gr
 have p3:=(zu C3).c3
 go_wp2_with fail
 refine(markLot _ base _ x.cl x.al (e3 x.b) x.b.ls nl (by omega) (by omega) (zu Ol)).mono ?_
 rintro e w4 ⟨he,o,gr⟩
 replace he:e= .returned (.int .i64 (e4 x.b)):=he
 subst he
 have B4:=zh ((zu B3).grown gr (.inr (.inr (.inr (.inl rfl)))))
 have C4:=zh (show ClV w4 w.heap.size x from⟨gr.cell (zu C3).c0 (zu zl),gr.cell (zu C3).c1 (zu zl),gr.cell (zu C3).c2 (zu zl),gr.cell (zu C3).c3 (zu zl),gr.cell (zu C3).c4 (zu zl),gr.cell (zu C3).c5 (zu zl)⟩)
 have Na:=zh (other (zu Oa) (zu Ol) (by decide) gr)
 have Ni:=zh (other (zu Oi) (zu Ol) (by decide) gr)
 have Nb:=zh (other (zu Ob) (zu Ol) (by decide) gr)
 have Nt:=zh (other (zu Ot) (zu Ol) (by decide) gr)
 replace Ol:=zh o
 replace Oa:=Na
 clear Na
 replace Oi:=Ni
 clear Ni
 replace Ob:=Nb
 clear Nb
 replace Ot:=Nt
 clear Nt
 clear o gr
 have p4:=(zu C4).c4
 go_wp2_with fail
 refine(markTrade _ base _ x.ct x.ats (e4 x.b) x.b.ts nt (by omega) (by omega) (zu Ot)).mono ?_
 rintro e w5 ⟨he,o,gr⟩
 replace he:e= .returned (.int .i64 (e5 x.b)):=he
 subst he
 have B5:=zh ((zu B4).grown gr (.inr (.inr (.inr (.inr rfl)))))
 have C5:=zh (show ClV w5 w.heap.size x from⟨gr.cell (zu C4).c0 (zu zt),gr.cell (zu C4).c1 (zu zt),gr.cell (zu C4).c2 (zu zt),gr.cell (zu C4).c3 (zu zt),gr.cell (zu C4).c4 (zu zt),gr.cell (zu C4).c5 (zu zt)⟩)
 have Na:=zh (other (zu Oa) (zu Ot) (by decide) gr)
 have Ni:=zh (other (zu Oi) (zu Ot) (by decide) gr)
 have Nb:=zh (other (zu Ob) (zu Ot) (by decide) gr)
 have Nl:=zh (other (zu Ol) (zu Ot) (by decide) gr)
 replace Ot:=zh o
 replace Oa:=Na
 clear Na
 replace Oi:=Ni
 clear Ni
 replace Ob:=Nb
 clear Nb
 replace Ol:=Nl
 clear Nl
 clear o gr
 go_wp2
 go_ret
 exact⟨rfl,⟨zu Oa,zu Oi,zu Ob,zu Ol,zu Ot⟩,zu B5⟩
theorem heldBV(w:World)(base:Nat)(x:Ix)(h:OwMV w base x)(hs:Small x.b):
  Calls Tryz.prog 29 #[.agg #[.slice x.aa x.b.ac.length x.ca,.slice x.ai x.b.ic.length x.ci,.slice x.ab x.b.bs.length x.cb,.slice x.al x.b.ls.length x.cl,.slice x.ats x.b.ts.length x.ct,.int .i64 x.b.lot],.int .i64 1] w fun e w'=>e= .returned (.int .i64 (e5 x.b))∧Below w.heap.size w w':=by
 obtain⟨⟨l1,u1⟩,⟨l2,u2⟩,⟨l3,u3⟩,⟨l4,u4⟩,⟨l5,u5⟩⟩:=e_bd hs
 obtain⟨na,ni,nb,nl,nt⟩:=hs
 have B0:=zh (one_more w (.cells #[.slice x.aa x.b.ac.length x.ca,.slice x.ai x.b.ic.length x.ci,.slice x.ab x.b.bs.length x.cb,.slice x.al x.b.ls.length x.cl,.slice x.ats x.b.ts.length x.ct,.int .i64 x.b.lot] 32))
 have H0:=zh (h.step (one_more w (.cells #[.slice x.aa x.b.ac.length x.ca,.slice x.ai x.b.ic.length x.ci,.slice x.ab x.b.bs.length x.cb,.slice x.al x.b.ls.length x.cl,.slice x.ats x.b.ts.length x.ct,.int .i64 x.b.lot] 32)))
 have t1:¬e1 x.b<0:=by omega
 have t2:¬e2 x.b<0:=by omega
 have t3:¬e3 x.b<0:=by omega
 have t4:¬e4 x.b<0:=by omega
 have t5:¬e5 x.b<0:=by omega
 clear h
 go_enter Tryz.func29,Tryz.ntmps29
 go_wp2_with fail
 refine(heldAccount _ base _ x.ca x.aa 1 na (by omega) (by omega) (zu H0).oa).mono ?_
 rintro e w1 ⟨he,rfl⟩
 replace he:e= .returned (.int .i64 (e1 x.b)):=he
 subst he
 go_wp2_with fail
 refine(heldInstr _ base _ x.ci x.ai (e1 x.b) ni (by omega) (by omega) (zu H0).oi).mono ?_
 rintro e w2 ⟨he,rfl⟩
 replace he:e= .returned (.int .i64 (e2 x.b)):=he
 subst he
 go_wp2_with fail
 refine(heldBal _ base _ x.cb x.ab (e2 x.b) nb (by omega) (by omega) (zu H0).ob).mono ?_
 rintro e w3 ⟨he,rfl⟩
 replace he:e= .returned (.int .i64 (e3 x.b)):=he
 subst he
 go_wp2_with fail
 refine(heldLot _ base _ x.cl x.al (e3 x.b) nl (by omega) (by omega) (zu H0).ol).mono ?_
 rintro e w4 ⟨he,rfl⟩
 replace he:e= .returned (.int .i64 (e4 x.b)):=he
 subst he
 go_wp2_with fail
 refine(heldTrade _ base _ x.ct x.ats (e4 x.b) nt (by omega) (by omega) (zu H0).ot).mono ?_
 rintro e w5 ⟨he,rfl⟩
 replace he:e= .returned (.int .i64 (e5 x.b)):=he
 subst he
 go_wp2
 go_ret
 exact⟨rfl,zu B0⟩
end VB13
namespace ByteH
theorem info8:(Tryz.prog.info? 5).map (fun i=>(i.zero,i.size,i.bytes))=some (some (.int .u8 0),1,1):=by kernel_rfl
def At(w:World)(g:Nat)(xs:List Int):Prop:=∀i,i<xs.length→w.cell? ⟨g,i,none⟩=some (.int .u8 (xs.getD i 0))
def Reads(w:World)(a:Option Addr)(xs:List Int):Prop:=
 xs.length=0∨∃b off,a=some ⟨b,off,none⟩∧b<w.heap.size∧∀i,i<xs.length→w.cell? ⟨b,off+i,none⟩=some (.int .u8 (xs.getD i 0))
def Own(w:World)(base g n cap:Nat)(xs:List Int):Prop:=w.ownsRow base 5 1 (.slice (some ⟨g,0,none⟩) n cap) n (xs.map (Value.int .u8))
theorem Own.len{w:World}{base g n cap:Nat}{xs:List Int}(h:Own w base g n cap xs):xs.length=n:=by
 have:=h.1
 simpa using this
theorem Own.lt{w:World}{base g n cap:Nat}{xs:List Int}(h:Own w base g n cap xs):base≤g∧g<w.heap.size:=World.ownsRow.lt h g rfl
theorem Own.at{w:World}{base g n cap:Nat}{xs:List Int}(h:Own w base g n cap xs):At w g xs:=by
 intro i hi
 have hl:=h.len
 have:=World.ownsRow.cellAt h i (by omega)
 rw[this]
 simp[List.getD,hi]
theorem Own.free{w:World}{base g n cap:Nat}{xs:List Int}(h:Own w base g n cap xs)(i:Nat):w.frozen? ⟨g,i,none⟩=false:=World.ownsRow.frozenAt h i
theorem Own.mono{w:World}{base base' g n cap:Nat}{xs:List Int}(h:Own w base g n cap xs)(hb:base'≤base):Own w base' g n cap xs:=by
 refine⟨h.1,?_⟩
 rcases h.2 with⟨h1,_⟩|⟨g',c,cur,h1,h2,h3⟩
 ·simp at h1
 ·exact Or.inr ⟨g',c,cur,h1,Nat.le_trans hb h2,h3⟩
theorem Own.rebase{w:World}{base base' g n cap:Nat}{xs:List Int}(h:Own w base g n cap xs)(hb:base'≤g):Own w base' g n cap xs:=by
 refine⟨h.1,?_⟩
 rcases h.2 with⟨h1,_⟩|⟨g',c,cur,h1,h2,h3⟩
 ·simp at h1
 ·obtain⟨e,_⟩:g=g'∧cap=c:=by simpa using h1
  subst e
  exact Or.inr ⟨g,c,cur,h1,hb,h3⟩
theorem Own.kept{w w':World}{base g n cap:Nat}{xs:List Int}{row:Option Nat}(h:Own w base g n cap xs)(k:w.grownBy w' row)(hne:some g≠row):Own w' base g n cap xs:=
 World.ownsRow.kept h k (Or.inr hne)
theorem Own.below{w w':World}{base g n cap B:Nat}{xs:List Int}(h:Own w base g n cap xs)(k:Below B w w')(hg:g<B):Own w' base g n cap xs:=by
 refine⟨h.1,?_⟩
 rcases h.2 with⟨h1,_⟩|⟨g',c,cur,h1,h2,h3,h4⟩
 ·simp at h1
 ·obtain⟨e,_⟩:g=g'∧cap=c:=by simpa using h1
  subst e
  exact Or.inr ⟨g,c,cur,h1,h2,by rw[k.block g hg];exact h3,h4⟩
theorem At.below{w w':World}{g B:Nat}{xs:List Int}(h:At w g xs)(k:Below B w w')(hg:g<B):At w' g xs:=fun i hi=>(k.cell (p:=⟨g,i,none⟩) hg).trans (h i hi)
theorem Reads.below{w w':World}{a:Option Addr}{xs:List Int}(h:Reads w a xs)(k:Below w.heap.size w w'):Reads w' a xs:=by
 rcases h with h|⟨b,off,rfl,hb,hc⟩
 ·exact Or.inl h
 ·exact Or.inr ⟨b,off,rfl,Nat.lt_of_lt_of_le hb k.size,fun i hi=>(k.cell (p:=⟨b,off+i,none⟩) hb).trans (hc i hi)⟩
theorem Own.set{w:World}{base g n cap:Nat}{xs:List Int}(h:Own w base g n cap xs)(i:Nat)(x:Int):
  Own (w.setCell ⟨g,i,none⟩ (.int .u8 x)) base g n cap (xs.set i x)∧w.grownBy (w.setCell ⟨g,i,none⟩ (.int .u8 x)) (some g):=by
 have:=World.ownsRow.stored h i (.int .u8 x)
 refine⟨?_,this.2⟩
 unfold Own
 rw[List.map_set]
 exact this.1
end ByteH
namespace VOB
open ByteH (Own At)
def Ob(w:World)(base:Nat)(a:Option Addr)(n cap:Nat)(xs:List Int):Prop:=w.ownsRow base 5 1 (.slice a n cap) n (xs.map (Value.int .u8))
theorem Ob.of{w:World}{base g n cap:Nat}{xs:List Int}(h:Own w base g n cap xs):Ob w base (some ⟨g,0,none⟩) n cap xs:=h
theorem Ob.nil(w:World)(base:Nat):Ob w base none 0 0 []:=World.ownsRow_nil w base _ _
section
variable {w w':World} {base n cap:Nat} {a:Option Addr} {xs:List Int}
theorem Ob.len(h:Ob w base a n cap xs):xs.length=n:=by have:=h.1;simpa using this
theorem Ob.either(h:Ob w base a n cap xs):(a=none∧n=0∧xs=[])∨∃g,a=some ⟨g,0,none⟩∧Own w base g n cap xs:=by
 have hl:=h.len
 rcases h.2 with⟨h1,_⟩|⟨g,c,cur,h1,_⟩
 ·have:a=none∧n=0∧cap=0:=by simpa using h1
  obtain⟨rfl,rfl,rfl⟩:=this
  exact .inl ⟨rfl,rfl,List.eq_nil_of_length_eq_zero hl⟩
 ·have:a=some ⟨g,0,none⟩∧cap=c:=by simpa using h1
  obtain⟨rfl,rfl⟩:=this
  exact .inr ⟨g,rfl,h⟩
def Btw(lo hi:Nat)(a:Option Addr):Prop:=∀x,a=some x→lo≤x.block∧x.block<hi
theorem Ob.btw(h:Ob w base a n cap xs):Btw base w.heap.size a:=by
 intro x hx
 rcases h.either with⟨rfl,_⟩|⟨g,rfl,o⟩
 ·cases hx
 ·cases hx;exact o.lt
theorem Btw.mono{lo hi lo' hi':Nat}(h:Btw lo hi a)(h1:lo'≤lo)(h2:hi≤hi'):Btw lo' hi' a:=fun x hx=>⟨Nat.le_trans h1 (h x hx).1,Nat.lt_of_lt_of_le (h x hx).2 h2⟩
theorem Ob.mono{base':Nat}(h:Ob w base a n cap xs)(hb:base'≤base):Ob w base' a n cap xs:=by
 rcases h.either with⟨rfl,rfl,rfl⟩|⟨g,rfl,o⟩
 ·refine⟨h.1,?_⟩
  rcases h.2 with h|⟨g,c,cur,h1,_⟩
  ·exact .inl h
  ·simp at h1
 ·exact o.mono hb
theorem Ob.below{B:Nat}(h:Ob w base a n cap xs)(k:Below B w w')(hb:Btw 0 B a):Ob w' base a n cap xs:=by
 rcases h.either with⟨rfl,rfl,rfl⟩|⟨g,rfl,o⟩
 ·refine⟨h.1,?_⟩
  rcases h.2 with h|⟨g,c,cur,h1,_⟩
  ·exact .inl h
  ·simp at h1
 ·exact o.below k (hb _ rfl).2
theorem Ob.step(h:Ob w base a n cap xs)(k:Below w.heap.size w w'):Ob w' base a n cap xs:=h.below k (h.btw.mono (Nat.zero_le _) (Nat.le_refl _))
theorem Ob.kept{row:Option Nat}(h:Ob w base a n cap xs)(k:w.grownBy w' row)(hr:∀x,a=some x→some x.block≠row):Ob w' base a n cap xs:=by
 rcases h.either with⟨rfl,rfl,rfl⟩|⟨g,rfl,o⟩
 ·refine⟨h.1,?_⟩
  rcases h.2 with h|⟨g,c,cur,h1,_⟩
  ·exact .inl h
  ·simp at h1
 ·exact o.kept k (hr _ rfl)
end
def Rd(w:World)(a:Option Addr)(xs:List Int):Prop:=xs=[]∨∃g,a=some ⟨g,0,none⟩∧g<w.heap.size∧At w g xs
theorem Ob.rd{w:World}{base n cap:Nat}{a:Option Addr}{xs:List Int}(h:Ob w base a n cap xs):Rd w a xs:=by
 rcases h.either with⟨rfl,rfl,rfl⟩|⟨g,rfl,o⟩
 ·exact .inl rfl
 ·exact .inr ⟨g,rfl,o.lt.2,o.at⟩
theorem Rd.below{w w':World}{a:Option Addr}{xs:List Int}(h:Rd w a xs)(k:Below w.heap.size w w'):Rd w' a xs:=by
 rcases h with h|⟨g,e,hl,hc⟩
 ·exact .inl h
 ·exact .inr ⟨g,e,Nat.lt_of_lt_of_le hl k.size,hc.below k hl⟩
end VOB
namespace SBytes
theorem zh{p:Prop}(h:p):Hid p:=h
theorem zu{p:Prop}(h:Hid p):p:=h
def AtB(w:World)(g:Nat)(xs:List Int):Prop:=∀i,i<xs.length→w.cell? ⟨g,i,none⟩=some (.int .u8 (xs.getD i 0))∧0≤xs.getD i 0∧xs.getD i 0≤255
def stepC(p:Int×Int)(d:Int):Int×Int:=((p.1+d+1)%65535,(p.2+(p.1+d+1)%65535)%65535)
def chk(xs:List Int):Nat→Int×Int
 |0=>(0,0)
 |k+1=>stepC (chk xs k) (xs.getD k 0)
theorem chk_in(xs:List Int)(k:Nat):0≤(chk xs k).1∧(chk xs k).1<65535∧0≤(chk xs k).2∧(chk xs k).2<65535:=by
 cases k with
 |zero=>simp[chk]
 |succ k=>simp only[chk,stepC];omega
theorem AtB.below{w w':World}{g B:Nat}{xs:List Int}(h:AtB w g xs)(k:Below B w w')(hg:g<B):AtB w' g xs:=fun i hi=>⟨(k.cell (p:=⟨g,i,none⟩) hg).trans (h i hi).1,(h i hi).2⟩
def chkB(xs:List Int):Int:=65536*(chk xs xs.length).2+(chk xs xs.length).1
theorem tmod_pos(a:Int)(h:0≤a):a.tmod 65535=a%65535:=Int.tmod_eq_emod_of_nonneg h
theorem sCheck(w:World)(g cap:Nat)(xs:List Int)(h20:xs.length≤1048576)(hr:AtB w g xs):
  Calls Tryz.prog 33 #[.slice (some ⟨g,0,none⟩) xs.length cap] w fun e w'=>e= .returned (.int .i64 (65536*(chk xs xs.length).2+(chk xs xs.length).1))∧w'=w:=by
 have R:=zh hr
 clear hr
 go_enter Tryz.func33,Tryz.ntmps33
 go_wp2
 go_loopw [3,4,5] (fun a b i wr=>∃(k:Nat) (x y:Int),k≤xs.length∧i= .int .i64 k∧a= .int .i64 x∧b= .int .i64 y∧Hid ((x,y)=chk xs k)∧wr=w) (fun _ _ i _=>xs.length-(intOf i).toNat)
 case atStart=>exact⟨0,0,0,by omega,rfl,rfl,rfl,rfl,rfl⟩
 case round=>
  obtain⟨k,x,y,hk,rfl,rfl,rfl,HC,rfl⟩:=hrel
  have q:=chk_in xs k
  rw[←zu HC] at q
  obtain⟨q0,q1,q2,q3⟩:=q
  simp only at q0 q1 q2 q3
  by_cases t:k<xs.length
  ·obtain⟨d,d0,d1⟩:=(zu R) k t
   have N:=zh (show((x+xs.getD k 0+1)%65535,(y+(x+xs.getD k 0+1)%65535)%65535)=chk xs (k+1) from by simp only[chk];rw[←zu HC];rfl)
   clear HC
   generalize xs.getD k 0=v at *
   have a1:wrap64 (x+v)=x+v:=by rw[wrap64];omega
   have a2:wrap64 (x+v+1)=x+v+1:=by rw[wrap64];omega
   have a3:(x+v+1).tmod 65535=(x+v+1)%65535:=tmod_pos _ (by omega)
   have m1:0≤(x+v+1)%65535∧(x+v+1)%65535<65535:=by omega
   generalize (x+v+1)%65535=m at *
   have a4:wrap64 m=m:=by rw[wrap64];omega
   have a5:wrap64 (y+m)=y+m:=by rw[wrap64];omega
   have a6:(y+m).tmod 65535=(y+m)%65535:=tmod_pos _ (by omega)
   have m2:0≤(y+m)%65535∧(y+m)%65535<65535:=by omega
   generalize (y+m)%65535=n at *
   have a7:wrap64 n=n:=by rw[wrap64];omega
   have a8:wrap64 v=v:=by rw[wrap64];omega
   go_wp2
   go_roundw
   case rel=>exact⟨k+1,m,n,by omega,by go_num,by simp[a1,a2,a3,a4],by simp[a1,a2,a3,a4,a5,a6,a7],N,trivial⟩
   case measure=>simp[intOf];omega
  ·have e:k=xs.length:=by omega
   subst e
   have a1:wrap64 (65536*y)=65536*y:=by rw[wrap64];omega
   have a2:wrap64 (65536*y+x)=65536*y+x:=by rw[wrap64];omega
   have c1:x=(chk xs xs.length).1:=congrArg Prod.fst (zu HC)
   have c2:y=(chk xs xs.length).2:=congrArg Prod.snd (zu HC)
   have C1:=zh c1
   have C2:=zh c2
   clear c1 c2
   go_wp2
   go_ret
   exact⟨by rw[←zu C1,←zu C2];simp[a1,a2],rfl⟩
def val(xs:List Int)(at':Nat):Nat→Int
 |0=>0
 |k+1=>val xs at' k+xs.getD (at'+k) 0%128*128^k
def getF(xs:List Int)(at':Nat):Nat→Nat→Int×Int×Bool
 |0,_=>(0,0,false)
 |f+1,k=>if at'+k<xs.length then(if xs.getD (at'+k) 0<128 then(if xs.getD (at'+k) 0=0∧0<k then(0,0,false) else(val xs at' (k+1),((at'+k+1:Nat):Int),true)) else getF xs at' f (k+1)) else(0,0,false)
def getN(xs:List Int)(at':Int):Int×Int×Bool:=if at'<0∨(xs.length:Int)≤at' then(0,0,false) else getF xs at'.toNat 9 0
theorem pow_le(k:Nat)(h:k≤8):1≤(128:Int)^k∧(128:Int)^k≤72057594037927936:=by
 have:k=0∨k=1∨k=2∨k=3∨k=4∨k=5∨k=6∨k=7∨k=8:=by omega
 rcases this with rfl|rfl|rfl|rfl|rfl|rfl|rfl|rfl|rfl<;>decide
theorem pow_more(k:Nat):(128:Int)^(k+1)=128^k*128:=Int.pow_succ 128 k
theorem val_in(xs:List Int)(at' k:Nat):0≤val xs at' k∧val xs at' k<128^k:=by
 induction k with
 |zero=>simp[val]
 |succ k ih=>
  have p:(0:Int)≤128^k:=by omega
  have d0:0≤xs.getD (at'+k) 0%128:=by omega
  have d1:xs.getD (at'+k) 0%128≤127:=by omega
  have m0:=Int.mul_nonneg d0 p
  have m1:=Int.mul_le_mul_of_nonneg_right d1 p
  rw[pow_more]
  simp only[val]
  omega
def AtBO(w:World)(g o:Nat)(xs:List Int):Prop:=∀i,i<xs.length→w.cell? ⟨g,o+i,none⟩=some (.int .u8 (xs.getD i 0))∧0≤xs.getD i 0∧xs.getD i 0≤255
theorem AtBO.of{w:World}{g:Nat}{xs:List Int}(h:AtB w g xs):AtBO w g 0 xs:=fun i hi=>by rw[Nat.zero_add];exact h i hi
theorem AtBO.below{w w':World}{g o B:Nat}{xs:List Int}(h:AtBO w g o xs)(k:Below B w w')(hg:g<B):AtBO w' g o xs:=fun i hi=>⟨(k.cell (p:=⟨g,o+i,none⟩) hg).trans (h i hi).1,(h i hi).2⟩
theorem sGetNumO(w:World)(g o cap:Nat)(xs:List Int)(at':Int)(h20:xs.length≤1048576)(hr:AtBO w g o xs):
  Calls Tryz.prog 16 #[.slice (some ⟨g,o,none⟩) xs.length cap,.int .i64 at'] w fun e w'=>e= .returned (.tuple #[.int .i64 (getN xs at').1,.int .i64 (getN xs at').2.1,.bool (getN xs at').2.2])∧w'=w:=by
 have R:=zh hr
 clear hr
 by_cases p0:at'<0
 ·have e:getN xs at'=(0,0,false):=by unfold getN;rw[if_pos (.inl p0)]
  rw[e]
  clear e
  go_enter Tryz.func16,Tryz.ntmps16
  go_wp2
  go_ret3
  exact⟨rfl,rfl⟩
 by_cases p1:(xs.length:Int)≤at'
 ·have e:getN xs at'=(0,0,false):=by unfold getN;rw[if_pos (.inr p1)]
  rw[e]
  clear e
  go_enter Tryz.func16,Tryz.ntmps16
  go_wp2
  go_ret3
  exact⟨rfl,rfl⟩
 obtain⟨n,rfl⟩:∃n:Nat,at'=n:=⟨at'.toNat,by omega⟩
 have E0:=zh (show getN xs n=getF xs n 9 0 from by unfold getN;rw[if_neg (by omega)];simp)
 have p2:n<xs.length:=by omega
 generalize getN xs n=r at *
 obtain⟨r0,r1,r2⟩:=r
 go_enter Tryz.func16,Tryz.ntmps16
 go_wp2
 clear p0 p1
 go_loopw [7,8,9,10] (fun a u i _ wr=>∃(k:Nat) (x v:Int),k≤9∧i= .int .i64 k∧a= .int .i64 x∧u= .int .i64 v∧Hid (x=val xs n k)∧Hid (k≤8→v=128^k)∧Hid ((r0,r1,r2)=getF xs n (9-k) k)∧wr=w) (fun _ _ i _ _=>9-(intOf i).toNat)
 case atStart=>exact⟨0,0,1,by omega,rfl,rfl,rfl,rfl,zh (fun _=>rfl),E0,rfl⟩
 case round=>
  obtain⟨k,x,v,hk,rfl,rfl,rfl,HX,HV,HE,rfl⟩:=hrel
  clear E0
  by_cases t:k=9
  ·subst t
   have F:=zu HE
   simp only[Nat.sub_self,getF] at F
   injection F with F0 F
   injection F with F1 F2
   subst F0 F1 F2
   clear HX HV HE
   go_wp2
   go_ret3
   exact⟨rfl,rfl⟩
  by_cases t1:n+k<xs.length
  case neg=>
   have F:=zu HE
   rw[show 9-k=(9-(k+1))+1 by omega] at F
   simp only[getF] at F
   rw[if_neg t1] at F
   injection F with F0 F
   injection F with F1 F2
   subst F0 F1 F2
   have a0:wrap64 ((n:Int)+(k:Int))=n+k:=by rw[wrap64];omega
   have a1:¬((n:Int)+k<xs.length):=by omega
   have a2:(k:Int)<9:=by omega
   clear HX HV HE t1 t hk
   go_wp2
   go_ret3
   exact⟨rfl,rfl⟩
  obtain⟨d,d0,d1⟩:=(zu R) (n+k) t1
  have hv:=(zu HV) (by omega)
  have V1:=zh (show x+xs.getD (n+k) 0%128*v=val xs n (k+1) from by rw[zu HX,hv];rfl)
  have V2:=zh (show k+1≤8→v*128=128^(k+1) from fun _=>by rw[hv,pow_more])
  have XI:=zh (show 0≤x∧x<v from by have q:=val_in xs n k;rw[←hv,←zu HX] at q;exact q)
  have ST:=zh (show(r0,r1,r2)=if xs.getD (n+k) 0<128 then(if xs.getD (n+k) 0=0∧0<k then(0,0,false) else(val xs n (k+1),((n+k+1:Nat):Int),true)) else getF xs n (9-(k+1)) (k+1) from by
   rw[zu HE,show 9-k=(9-(k+1))+1 by omega]
   simp only[getF]
   rw[if_pos t1])
  rw[←zu V1] at ST
  clear HX HV HE
  generalize xs.getD (n+k) 0=y at *
  have Y:=zh (show 0≤y∧y≤255 from⟨d0,d1⟩)
  have a0:wrap64 ((n:Int)+(k:Int))=n+k:=by rw[wrap64];omega
  have a1:(n:Int)+k<xs.length:=by omega
  have a2:(k:Int)<9:=by omega
  have a3:wrap64 y=y:=by rw[wrap64];omega
  have b1:y.tmod 128=y%128:=Int.tmod_eq_emod_of_nonneg d0
  have b2:wrap64 (y%128)=y%128:=by rw[wrap64];omega
  have pv:=pow_le k (by omega)
  rw[←hv] at pv
  have m0:=Int.mul_nonneg (show 0≤y%128 by omega) (show 0≤v by omega)
  have m1:=Int.mul_le_mul_of_nonneg_right (show y%128≤127 by omega) (show 0≤v by omega)
  have xi:=zu XI
  have b3:wrap64 (y%128*v)=y%128*v:=by
   generalize y%128*v=m at *
   rw[wrap64];omega
  have b4:wrap64 (x+y%128*v)=x+y%128*v:=by
   generalize y%128*v=m at *
   rw[wrap64];omega
  have b5:wrap64 ((n:Int)+k+1)=n+k+1:=by rw[wrap64];omega
  have b6:=zh (show k+1≤8→wrap64 (v*128)=v*128 from fun _=>by
   have:=pow_le (k+1) (by omega)
   rw[pow_more,←hv] at this
   rw[wrap64];omega)
  have B:=zh (And.intro b1 (And.intro b2 (And.intro b3 (And.intro b4 b5))))
  clear hv d0 d1 t t1 pv m0 m1 xi XI b1 b2 b3 b4 b5
  by_cases y1:y<128
  ·by_cases y2:y=0
   ·by_cases k0:0<k
    ·have F:=zu ST
     rw[if_pos y1,if_pos ⟨y2,k0⟩] at F
     injection F with F0 F
     injection F with F1 F2
     subst F0 F1 F2
     subst y2
     have k1:(0:Int)<k:=by omega
     clear ST V1 V2 hk
     go_wp2
     go_ret3
     exact⟨rfl,rfl⟩
    ·have F:=zu ST
     rw[if_pos y1,if_neg (fun h=>k0 h.2)] at F
     injection F with F0 F
     injection F with F1 F2
     subst F0 F1 F2
     subst y2
     have k1:¬(0:Int)<k:=by omega
     clear ST V1 V2 hk
     go_wp2
     go_ret3
     obtain⟨b1,b2,b3,b4,b5⟩:=zu B
     simp at b4
     exact⟨by simp[b4,b5],rfl⟩
   ·have F:=zu ST
    rw[if_pos y1,if_neg (fun h=>y2 h.1)] at F
    injection F with F0 F
    injection F with F1 F2
    subst F0 F1 F2
    have y3:(y==0)=false:=by simp[y2]
    clear ST V1 V2 hk y2
    go_wp2
    go_ret3
    obtain⟨b1,b2,b3,b4,b5⟩:=zu B
    exact⟨by simp[b1,b2,b3,b4,b5],rfl⟩
  ·have F:=zu ST
   rw[if_neg y1] at F
   have HF:=zh F
   clear ST F
   go_wp2
   go_roundw
   case rel=>
    obtain⟨b1,b2,b3,b4,b5⟩:=zu B
    exact⟨k+1,x+y%128*v,wrap64 (v*128),by omega,by go_num,by simp[b1,b2,b3,b4],rfl,V1,zh (fun h=>by rw[(zu b6) h];exact(zu V2) h),HF,trivial⟩
   case measure=>simp[intOf];omega
theorem sGetNum(w:World)(g cap:Nat)(xs:List Int)(at':Int)(h20:xs.length≤1048576)(hr:AtB w g xs):
  Calls Tryz.prog 16 #[.slice (some ⟨g,0,none⟩) xs.length cap,.int .i64 at'] w fun e w'=>e= .returned (.tuple #[.int .i64 (getN xs at').1,.int .i64 (getN xs at').2.1,.bool (getN xs at').2.2])∧w'=w:=sGetNumO w g 0 cap xs at' h20 (.of hr)
end SBytes
namespace LawR13
open BMem Bks BHelp BkEq BMemV13 VB13
open IBalsFit (one_more)
open SRead13L (row_step)
structure Kx(W:World)(g:Nat)(x:Ix):Prop where
 c:ClV W g x
 lt:g<W.heap.size
theorem Kx.made(w:World)(x:Ix)(e:TypeId):Kx (w.alloc (.cells #[.slice x.aa x.b.ac.length x.ca,.slice x.ai x.b.ic.length x.ci,.slice x.ab x.b.bs.length x.cb,.slice x.al x.b.ls.length x.cl,.slice x.ats x.b.ts.length x.ct,.int .i64 x.b.lot] e)) w.heap.size x:=⟨boxedV w x e,by simp⟩
theorem Kx.step{W W':World}{g:Nat}{x:Ix}(h:Kx W g x)(k:Below W.heap.size W W'):Kx W' g x:=⟨h.c.below k h.lt,Nat.lt_of_lt_of_le h.lt k.size⟩
theorem Kx.kept{W W':World}{g:Nat}{x:Ix}{row:Option Nat}(h:Kx W g x)(k:W.grownBy W' row)(ne:some g≠row):Kx W' g x:=
 ⟨⟨k.cell h.c.c0 ne,k.cell h.c.c1 ne,k.cell h.c.c2 ne,k.cell h.c.c3 ne,k.cell h.c.c4 ne,k.cell h.c.c5 ne⟩,Nat.lt_of_lt_of_le h.lt k.size⟩
theorem Kx.turn{W W':World}{g:Nat}{x y:Ix}(h:Kx W g x)(k:TurnV y W W')(n0:some g≠(.slice y.aa y.b.ac.length y.ca:Value).ownBlock)(n1:some g≠(.slice y.ai y.b.ic.length y.ci:Value).ownBlock)(n2:some g≠(.slice y.ab y.b.bs.length y.cb:Value).ownBlock)(n3:some g≠(.slice y.al y.b.ls.length y.cl:Value).ownBlock)(n4:some g≠(.slice y.ats y.b.ts.length y.ct:Value).ownBlock):Kx W' g x:=by
 have e:W'.heap[g]?=W.heap[g]?:=k.block g h.lt n0 n1 n2 n3 n4
 have q:∀i,W'.cell? ⟨g,i,none⟩=W.cell? ⟨g,i,none⟩:=fun i=>World.cell?_of_block (w:=W) e
 exact⟨⟨(q 0).trans h.c.c0,(q 1).trans h.c.c1,(q 2).trans h.c.c2,(q 3).trans h.c.c3,(q 4).trans h.c.c4,(q 5).trans h.c.c5⟩,Nat.lt_of_lt_of_le h.lt k.size⟩
def UpV(x:Ix)(N:Nat):Prop:=(∀g,x.aa=some ⟨g,0,none⟩→g<N)∧(∀g,x.ai=some ⟨g,0,none⟩→g<N)∧(∀g,x.ab=some ⟨g,0,none⟩→g<N)∧(∀g,x.al=some ⟨g,0,none⟩→g<N)∧(∀g,x.ats=some ⟨g,0,none⟩→g<N)
theorem up_of{W:World}{x:Ix}(h:RdV W x):UpV x W.heap.size:=⟨fun g e=>(h.ra g e).1,fun g e=>(h.ri g e).1,fun g e=>(h.rb g e).1,fun g e=>(h.rl g e).1,fun g e=>(h.rt g e).1⟩
theorem up_mono{x:Ix}{N M:Nat}(h:UpV x N)(k:N≤M):UpV x M:=⟨fun g e=>Nat.lt_of_lt_of_le (h.1 g e) k,fun g e=>Nat.lt_of_lt_of_le (h.2.1 g e) k,fun g e=>Nat.lt_of_lt_of_le (h.2.2.1 g e) k,fun g e=>Nat.lt_of_lt_of_le (h.2.2.2.1 g e) k,fun g e=>Nat.lt_of_lt_of_le (h.2.2.2.2 g e) k⟩
theorem rd_low{W W':World}{x:Ix}{N:Nat}(h:RdV W x)(u:UpV x N)(k:Below N W W'):RdV W' x:=
 ⟨h.ea,fun g e=>⟨Nat.lt_of_lt_of_le (h.ra g e).1 k.size,(h.ra g e).2.below k (u.1 g e)⟩,h.na,h.ei,fun g e=>⟨Nat.lt_of_lt_of_le (h.ri g e).1 k.size,(h.ri g e).2.below k (u.2.1 g e)⟩,h.ni,h.eb,fun g e=>⟨Nat.lt_of_lt_of_le (h.rb g e).1 k.size,(h.rb g e).2.below k (u.2.2.1 g e)⟩,h.nb,h.el,fun g e=>⟨Nat.lt_of_lt_of_le (h.rl g e).1 k.size,(h.rl g e).2.below k (u.2.2.2.1 g e)⟩,h.nl,h.et,fun g e=>⟨Nat.lt_of_lt_of_le (h.rt g e).1 k.size,(h.rt g e).2.below k (u.2.2.2.2 g e)⟩,h.nt⟩
theorem not_own{W:World}{base:Nat}{x:Ix}{g:Nat}(h:OwV W base x)(hg:W.heap.size≤g):some g≠(.slice x.aa x.b.ac.length x.ca:Value).ownBlock∧some g≠(.slice x.ai x.b.ic.length x.ci:Value).ownBlock∧some g≠(.slice x.ab x.b.bs.length x.cb:Value).ownBlock∧some g≠(.slice x.al x.b.ls.length x.cl:Value).ownBlock∧some g≠(.slice x.ats x.b.ts.length x.ct:Value).ownBlock:=
 ⟨fun e=>by have:=(World.ownsRow.lt h.oa g e.symm).2;omega,fun e=>by have:=(World.ownsRow.lt h.oi g e.symm).2;omega,fun e=>by have:=(World.ownsRow.lt h.ob g e.symm).2;omega,fun e=>by have:=(World.ownsRow.lt h.ol g e.symm).2;omega,fun e=>by have:=(World.ownsRow.lt h.ot g e.symm).2;omega⟩
end LawR13
namespace Fil14
abbrev TF:Type:=Int×ByteArray×ByteArray
abbrev elF(ps:List TF)(i:Nat):TF:=ps.getD i (0,ByteArray.empty,ByteArray.empty)
theorem zh{p:Prop}(h:p):Hid p:=h
theorem zu{p:Prop}(h:Hid p):p:=h
def flatF(ps:List TF):List Value:=ps.flatMap fun p=>[.int .i64 p.1,.string p.2.1,.string p.2.2]
theorem flatF_cons(p:TF)(ps:List TF):flatF (p::ps)= .int .i64 p.1:: .string p.2.1:: .string p.2.2::flatF ps:=rfl
theorem flatF_len(ps:List TF):(flatF ps).length=ps.length*3:=by
 induction ps with
 |nil=>rfl
 |cons p ps ih=>rw[flatF_cons];simp[ih];omega
theorem flatF_get(ps:List TF):∀i,i<ps.length→(flatF ps)[i*3]?=some (.int .i64 (elF ps i).1)∧(flatF ps)[i*3+1]?=some (.string (elF ps i).2.1)∧(flatF ps)[i*3+2]?=some (.string (elF ps i).2.2):=by
 induction ps with
 |nil=>intro i h;simp at h
 |cons p ps ih=>
  intro i h
  cases i with
  |zero=>rw[flatF_cons];simp
  |succ i=>
   have:=ih i (by simpa using h)
   rw[flatF_cons,show(i+1)*3=i*3+3 by omega,show i*3+3+1=(i*3+1)+3 by omega,show i*3+3+2=(i*3+2)+3 by omega]
   simpa using this
theorem flatF_set0(ps:List TF):∀(i:Nat) (x:Int),(flatF ps).set (i*3) (.int .i64 x)=flatF (ps.modify i fun p=>(x,p.2)):=by
 induction ps with
 |nil=>intro i x;simp[flatF]
 |cons p ps ih=>
  intro i x
  cases i with
  |zero=>simp[flatF_cons]
  |succ i=>rw[flatF_cons,show(i+1)*3=i*3+1+1+1 by omega,List.set_cons_succ,List.set_cons_succ,List.set_cons_succ,ih i x,List.modify_succ_cons,flatF_cons]
theorem flatF_set(ps:List TF):∀(i:Nat) (x:ByteArray),(flatF ps).set (i*3+1) (.string x)=flatF (ps.modify i fun p=>(p.1,x,p.2.2))∧(flatF ps).set (i*3+2) (.string x)=flatF (ps.modify i fun p=>(p.1,p.2.1,x)):=by
 induction ps with
 |nil=>intro i x;simp[flatF]
 |cons p ps ih=>
  intro i x
  cases i with
  |zero=>simp[flatF_cons]
  |succ i=>
   obtain⟨b,c⟩:=ih i x
   refine⟨?_,?_⟩
   ·rw[flatF_cons,show(i+1)*3+1=i*3+1+1+1+1 by omega,List.set_cons_succ,List.set_cons_succ,List.set_cons_succ,b,List.modify_succ_cons,flatF_cons]
   ·rw[flatF_cons,show(i+1)*3+2=i*3+2+1+1+1 by omega,List.set_cons_succ,List.set_cons_succ,List.set_cons_succ,c,List.modify_succ_cons,flatF_cons]
def HoldsF(w:World)(g o:Nat)(p:TF):Prop:=w.cell? ⟨g,o,none⟩=some (.int .i64 p.1)∧w.cell? ⟨g,o+1,none⟩=some (.string p.2.1)∧w.cell? ⟨g,o+2,none⟩=some (.string p.2.2)
def AtF(w:World)(g:Nat)(ps:List TF):Prop:=∀i,i<ps.length→HoldsF w g (i*3) (elF ps i)
def ReadsF(w:World)(a:Option Addr)(ps:List TF):Prop:=ps.length=0∨∃b off,a=some ⟨b,off,none⟩∧b<w.heap.size∧∀i,i<ps.length→HoldsF w b (off+i*3) (elF ps i)
def OwnF(e:TypeId)(w:World)(base g n cap:Nat)(ps:List TF):Prop:=w.ownsRow base e 3 (.slice (some ⟨g,0,none⟩) n cap) n (flatF ps)
section
variable {e:TypeId} {w w':World} {base base' g n cap:Nat} {ps:List TF}
theorem HoldsF.below{B o:Nat}{p:TF}(h:HoldsF w g o p)(k:Below B w w')(hg:g<B):HoldsF w' g o p:=
 ⟨(k.cell (p:=⟨g,o,none⟩) hg).trans h.1,(k.cell (p:=⟨g,o+1,none⟩) hg).trans h.2.1,(k.cell (p:=⟨g,o+2,none⟩) hg).trans h.2.2⟩
theorem OwnF.len(h:OwnF e w base g n cap ps):ps.length=n:=by
 have:=h.1
 rw[flatF_len] at this
 omega
theorem OwnF.lt(h:OwnF e w base g n cap ps):base≤g∧g<w.heap.size:=World.ownsRow.lt h g rfl
theorem OwnF.at(h:OwnF e w base g n cap ps):AtF w g ps:=by
 intro i hi
 have hl:=h.len
 obtain⟨f0,f1,f2⟩:=flatF_get ps i hi
 exact⟨(World.ownsRow.cellAt h (i*3) (by omega)).trans f0,(World.ownsRow.cellAt h (i*3+1) (by omega)).trans f1,(World.ownsRow.cellAt h (i*3+2) (by omega)).trans f2⟩
theorem OwnF.free(h:OwnF e w base g n cap ps)(i:Nat):w.frozen? ⟨g,i,none⟩=false:=World.ownsRow.frozenAt h i
theorem OwnF.rebase(h:OwnF e w base g n cap ps)(hb:base'≤g):OwnF e w base' g n cap ps:=by
 refine⟨h.1,?_⟩
 rcases h.2 with⟨h1,_⟩|⟨g',c,cur,h1,h2,h3⟩
 ·simp at h1
 ·obtain⟨e,_⟩:g=g'∧cap=c:=by simpa using h1
  subst e
  exact Or.inr ⟨g,c,cur,h1,hb,h3⟩
theorem OwnF.kept{row:Option Nat}(h:OwnF e w base g n cap ps)(k:w.grownBy w' row)(hne:some g≠row):OwnF e w' base g n cap ps:=
 World.ownsRow.kept h k (Or.inr hne)
theorem OwnF.below{B:Nat}(h:OwnF e w base g n cap ps)(k:Below B w w')(hg:g<B):OwnF e w' base g n cap ps:=by
 refine⟨h.1,?_⟩
 rcases h.2 with⟨h1,_⟩|⟨g',c,cur,h1,h2,h3,h4⟩
 ·simp at h1
 ·obtain⟨e,_⟩:g=g'∧cap=c:=by simpa using h1
  subst e
  exact Or.inr ⟨g,c,cur,h1,h2,by rw[k.block g hg];exact h3,h4⟩
theorem OwnF.alloc(h:OwnF e w base g n cap ps)(o:Obj):OwnF e (w.alloc o) base g n cap ps:=World.ownsRow.alloc h o
theorem OwnF.drew(h:OwnF e w base g n cap ps):OwnF e w.drew base g n cap ps:=h
theorem AtF.below{B:Nat}(h:AtF w g ps)(k:Below B w w')(hg:g<B):AtF w' g ps:=fun i hi=>(h i hi).below k hg
theorem ReadsF.below{a:Option Addr}(h:ReadsF w a ps)(k:Below w.heap.size w w'):ReadsF w' a ps:=by
 rcases h with h|⟨b,off,rfl,hb,hc⟩
 ·exact Or.inl h
 ·exact Or.inr ⟨b,off,rfl,Nat.lt_of_lt_of_le hb k.size,fun i hi=>(hc i hi).below k hb⟩
theorem OwnF.set0(h:OwnF e w base g n cap ps)(i:Nat)(x:Int):
  OwnF e (w.setCell ⟨g,i*3,none⟩ (.int .i64 x)) base g n cap (ps.modify i fun p=>(x,p.2))∧w.grownBy (w.setCell ⟨g,i*3,none⟩ (.int .i64 x)) (some g):=by
 have:=World.ownsRow.stored h (i*3) (.int .i64 x)
 refine⟨?_,this.2⟩
 unfold OwnF
 rw[←flatF_set0 ps i x]
 exact this.1
theorem OwnF.set1(h:OwnF e w base g n cap ps)(i:Nat)(x:ByteArray):
  OwnF e (w.setCell ⟨g,i*3+1,none⟩ (.string x)) base g n cap (ps.modify i fun p=>(p.1,x,p.2.2))∧w.grownBy (w.setCell ⟨g,i*3+1,none⟩ (.string x)) (some g):=by
 have:=World.ownsRow.stored h (i*3+1) (.string x)
 refine⟨?_,this.2⟩
 unfold OwnF
 rw[←(flatF_set ps i x).1]
 exact this.1
theorem OwnF.set2(h:OwnF e w base g n cap ps)(i:Nat)(x:ByteArray):
  OwnF e (w.setCell ⟨g,i*3+2,none⟩ (.string x)) base g n cap (ps.modify i fun p=>(p.1,p.2.1,x))∧w.grownBy (w.setCell ⟨g,i*3+2,none⟩ (.string x)) (some g):=by
 have:=World.ownsRow.stored h (i*3+2) (.string x)
 refine⟨?_,this.2⟩
 unfold OwnF
 rw[←(flatF_set ps i x).2]
 exact this.1
end
theorem grownBy_below{w w':World}(h:w.grownBy w' none):Below w.heap.size w w':=⟨h.os,h.tape,h.output,h.size,fun k hk=>h.block k hk (by simp)⟩
theorem next{a b c:World}(h:Below a.heap.size a b)(k:Below b.heap.size b c):Below a.heap.size a c:=h.trans (k.mono h.size)
theorem AtF.cells{w:World}{g:Nat}{ps:List TF}(h:AtF w g ps):∀(j:Nat) (u:Value),(flatF ps)[j]?=some u→w.cell? ((⟨g,0,none⟩:Addr).add j)=some u:=by
 intro j u hj
 have hl:j<ps.length*3:=by
  have:=(List.getElem?_eq_some_iff.1 hj).1
  rw[flatF_len] at this
  exact this
 rw[Addr.add_lit,Nat.zero_add]
 obtain⟨c0,c1,c2⟩:=h (j/3) (by omega)
 obtain⟨f0,f1,f2⟩:=flatF_get ps (j/3) (by omega)
 rcases(show j%3=0∨j%3=1∨j%3=2 by omega) with e|e|e
 ·rw[show j/3*3=j by omega] at c0 f0
  rw[c0,←hj,f0]
 ·rw[show j/3*3+1=j by omega] at c1 f1
  rw[c1,←hj,f1]
 ·rw[show j/3*3+2=j by omega] at c2 f2
  rw[c2,←hj,f2]
theorem grown_trans{a b c:World}{row:Option Nat}(h:a.grownBy b row)(k:b.grownBy c row):a.grownBy c row:=
 ⟨k.os.trans h.os,k.tape.trans h.tape,k.output.trans h.output,Nat.le_trans h.size k.size,fun j hj hne=>(k.block j (Nat.lt_of_lt_of_le hj h.size) hne).trans (h.block j hj hne)⟩
end Fil14
namespace OpensF14
open Fil14
def FitF(ps:List TF):Prop:=∀p∈ps,p.2.1.size≤9223372036854775807∧p.2.2.size≤9223372036854775807
theorem open_files{H:Type}{enc:TypeId×Value→H}{P:Program}{w:World}{base:Nat}{spare:Nat→Bool}{held:Bool}{t e i s:TypeId}{f0 f1 f2:Field}{fuel:Nat}{a:Option Addr}{len cap:Nat}{x:DataW H×List MemPlace}
  (ht:P.underlying t=some (.slice e))(he:P.underlying e=some (.struct #[f0,f1,f2]))
  (hc:(P.cellsOf e==3&&P.cellsOf i==1&&f0.type==i&&f1.type==s&&f2.type==s&&P.cellsOf s==1&&f0.offset==0&&f1.offset==1&&f2.offset==2)=true)(hi:P.underlying i=some (.int .i64))(hs:P.underlying s=some .string)
  (h:DataW.trod enc P w base spare held fuel t (Value.slice a len cap).cells.toList=some x):∃ps:List TF,ps.length=len∧len≤9223372036854775807∧ReadsF w a ps∧FitF ps:=by
 simp at hc
 obtain⟨⟨⟨⟨⟨⟨⟨⟨ce,ci⟩,e0⟩,e1⟩,e2⟩,cs⟩,o0⟩,o1⟩,o2⟩:=hc
 rcases Deep.open_slice ht h with⟨hcs,_⟩|⟨b,l,c,m,n,D,Pl,hcs,_,hlc,hm,hmm,_,hx⟩
 ·simp[Value.cells] at hcs
  obtain⟨rfl,rfl,rfl⟩:=hcs
  exact⟨[],rfl,by omega,.inl rfl,fun p hp=>by simp at hp⟩
 ·simp[Value.cells] at hcs
  obtain⟨rfl,rfl,rfl⟩:=hcs
  have hlm:len≤m:=by rw[hmm];split<;>omega
  have each:∀j,j<len→∃p:TF,w.cell? (b.add (j*3))=some (.int .i64 p.1)∧w.cell? (b.add (j*3+1))=some (.string p.2.1)∧w.cell? (b.add (j*3+2))=some (.string p.2.2)∧(p.2.1.size≤9223372036854775807∧p.2.2.size≤9223372036854775807):=by
   intro j hj
   obtain⟨cs',h1,h2⟩:=hx j (by omega)
   rw[ce] at h1
   obtain⟨_,hlen,hcell⟩:=World.cells?_some h1
   obtain⟨y0,y1,y2,k,_,_,g0,g1,g2⟩:=Deep.trod_struct3 he h2
   match cs',hlen with
   |[v0,v1,v2],_=>
    rw[e0] at g0
    rw[e1] at g1
    rw[e2] at g2
    simp[o0,o1,o2,ci,cs] at g0 g1 g2
    obtain⟨x0,q0,_⟩:=DataW.trod_int hi g0
    obtain⟨x1,q1,_,m1⟩:=DataW.trod_string hs g1
    obtain⟨x2,q2,_,m2⟩:=DataW.trod_string hs g2
    simp at q0 q1 q2
    subst q0 q1 q2
    have d0:=hcell 0 (by omega)
    have d1:=hcell 1 (by omega)
    have d2:=hcell 2 (by omega)
    rw[Deep.add_add] at d0 d1 d2
    exact⟨(x0,x1,x2),by simpa using d0,by simpa using d1,by simpa using d2,by unfold maxLen at m1;exact m1,by unfold maxLen at m2;exact m2⟩
  obtain⟨q,hq⟩:=Deep.choose_lt each
  refine⟨(List.range len).map q,by simp,by unfold maxLen at hm;omega,?_,fun p hp=>by
   obtain⟨j,hj,rfl⟩:=List.mem_map.1 hp
   exact(hq j (by simpa using hj)).2.2.2⟩
  by_cases z:len=0
  ·exact .inl (by simp[z])
  ·obtain⟨blk,off,spot⟩:=b
   have c0:=(hq 0 (by omega)).1
   have hspot:spot=none:=by simpa[Addr.add] using World.cell?_spot c0
   subst hspot
   have c0':w.cell? ⟨blk,off,none⟩=some (.int .i64 (q 0).1):=by simpa[Addr.add] using c0
   refine .inr ⟨blk,off,rfl,World.block_lt_of_cell? w _ c0',fun j hj=>?_⟩
   have hj':j<len:=by simpa using hj
   obtain⟨p0,p1,p2,_⟩:=hq j hj'
   rw[Addr.add_lit] at p0 p1 p2
   have hg:elF ((List.range len).map q) j=q j:=by simp[List.getD,hj']
   rw[hg]
   exact⟨p0,by rw[Nat.add_assoc];exact p1,by rw[Nat.add_assoc];exact p2⟩
theorem struct_cells2{H:Type}{enc:TypeId×Value→H}{P:Program}{w:World}{base:Nat}{spare:Nat→Bool}{held:Bool}{e:TypeId}{f0 f1:Field}{fuel:Nat}{cs:List Value}{x:DataW H×List MemPlace}
  (he:P.underlying e=some (.struct #[f0,f1]))(hc:(P.cellsOf e==2&&P.cellsOf f0.type==1&&P.cellsOf f1.type==1&&f0.offset==0&&f1.offset==1)=true)
  (h:DataW.trod enc P w base spare held fuel e cs=some x):∃v0 v1 k x0 x1,cs=[v0,v1]∧DataW.trod enc P w base spare held k f0.type [v0]=some x0∧DataW.trod enc P w base spare held k f1.type [v1]=some x1:=by
 simp at hc
 obtain⟨⟨⟨⟨ce,k0⟩,k1⟩,o0⟩,o1⟩:=hc
 obtain⟨xs,k,_,_,hl,hlen,hf⟩:=DataW.trod_struct he h
 rw[ce] at hl
 match xs,hlen,cs,hl with
 |[y0,y1],_,[v0,v1],_=>
  have g0:=hf 0 f0 rfl
  have g1:=hf 1 f1 rfl
  simp[o0,k0] at g0
  simp[o1,k1] at g1
  exact⟨v0,v1,k,_,_,rfl,g0,g1⟩
theorem open_disk{H:Type}{enc:TypeId×Value→H}{w:World}{base b0':Nat}{spare:Nat→Bool}{held:Bool}{r:Reach}{v:Value}{d:DataW H}{p:List MemPlace}
  (hv:Value.okWide Tryz.prog w r b0' 24 v)(h:DataW.Trod enc Tryz.prog w base spare held 24 v d p):∃k a len cap ps,v= .agg #[.int .i64 k,.slice a len cap]∧ps.length=len∧len≤9223372036854775807∧ReadsF w a ps∧FitF ps∧(Lit.int .i64 k).wf=true:=by
 obtain⟨cs,rfl,_⟩:=okWide_struct Tryz.underlying24 hv
 obtain⟨fuel,hf⟩:=h
 obtain⟨v0,v1,k,x0,x1,e,g0,g1⟩:=struct_cells2 (cs:=cs.toList) Tryz.underlying24 (by kernel_rfl) (by simpa[Value.cells] using hf)
 obtain⟨z,q,_,wz⟩:=DataW.trod_int Tryz.underlying3 g0
 simp at q
 subst q
 obtain⟨a,len,cap,rfl⟩:∃a len cap,v1= .slice a len cap:=by
  rcases Deep.open_slice Tryz.underlying22 g1 with⟨hcs,_⟩|⟨b,l,c,m,n,D,Pl,hcs,_⟩
  ·simp at hcs
   exact⟨none,0,0,hcs⟩
  ·simp at hcs
   exact⟨_,_,_,hcs⟩
 obtain⟨ps,h1,h2,h3,h4⟩:=open_files (a:=a) (len:=len) (cap:=cap) Tryz.underlying22 Tryz.underlying64 (by kernel_rfl) Tryz.underlying3 Tryz.underlying9 (by simpa[Value.cells] using g1)
 exact⟨z,a,len,cap,ps,congrArg Value.agg (Array.ext' e),h1,h2,h3,h4,wz⟩
end OpensF14
namespace DiskH14
open Fil14 OpensF14
theorem one_more(w:World)(o:Obj):Below w.heap.size w (w.alloc o):=(Below.refl _ _).alloc (Nat.le_refl _) _
def sumZ:List TF→Nat
 |[]=>0
 |p::r=>p.2.1.size+p.2.2.size+sumZ r
theorem sumZ_append(ps qs:List TF):sumZ (ps++qs)=sumZ ps+sumZ qs:=by
 induction ps with
 |nil=>simp[sumZ]
 |cons p r ih=>simp only[List.cons_append,sumZ,ih];omega
theorem sumZ_next{ps:List TF}{k:Nat}(h:k<ps.length):sumZ (ps.take (k+1))=sumZ (ps.take k)+((elF ps k).2.1.size+(elF ps k).2.2.size):=by
 rw[List.take_succ_eq_append_getElem h,sumZ_append]
 simp[sumZ,List.getD,h]
theorem fit_el{ps:List TF}(h:FitF ps){k:Nat}(hk:k<ps.length):(elF ps k).2.1.size≤9223372036854775807∧(elF ps k).2.2.size≤9223372036854775807:=by
 have:=h (ps[k]) (List.getElem_mem _)
 simpa[List.getD,hk] using this
theorem szF(w:World)(x:Int)(s t:ByteArray)(left:Int)(h0:0≤left)(h1:left≤1048576)(f1:s.size≤9223372036854775807)(f2:t.size≤9223372036854775807):
  Calls Tryz.prog 30 #[.agg #[.int .i64 x,.string s,.string t],.int .i64 left] w fun e w'=>∃r,e= .returned (.int .i64 r)∧(r= -1∨(0≤r∧r+s.size+t.size=left))∧Below w.heap.size w w':=by
 have B0:=zh (one_more w (.cells #[.int .i64 x,.string s,.string t] 64))
 generalize hn:s.size=n at *
 generalize hm:t.size=m at *
 have HN:=zh hn
 have HM:=zh hm
 by_cases q:left-(n:Int)<0
 ·go_enter Tryz.func30,Tryz.ntmps30
  go_wp2
  go_ret
  exact⟨-1,rfl,.inl rfl,zu B0⟩
 by_cases q2:left-(n:Int) -(m:Int)<0
 ·go_enter Tryz.func30,Tryz.ntmps30
  go_wp2
  go_ret
  exact⟨-1,rfl,.inl rfl,zu B0⟩
 ·go_enter Tryz.func30,Tryz.ntmps30
  go_wp2
  go_ret
  exact⟨left-n-m,rfl,.inr ⟨by omega,by omega⟩,zu B0⟩
theorem szFS(w:World)(a:Option Addr)(len cap:Nat)(ps:List TF)(hl:ps.length=len)(hx:len≤9223372036854775807)(hr:ReadsF w a ps)(hf:FitF ps):
  Calls Tryz.prog 13 #[.slice a len cap,.int .i64 1048576] w fun e w'=>∃r,e= .returned (.int .i64 r)∧(r= -1∨((0≤r∧r≤1048576)∧len≤1048576∧sumZ ps≤1048576))∧Below w.heap.size w w':=by
 have B0:=zh (Below.refl w.heap.size w)
 have R:=zh hr
 have HF:=zh hf
 have HL:=zh hl
 clear hr hf
 by_cases q:(1048576:Int) -(len:Int)<0
 ·clear hl
  go_enter Tryz.func13,Tryz.ntmps13
  go_wp2
  go_ret
  exact⟨-1,rfl,.inl rfl,zu B0⟩
 have l20:len≤1048576:=by omega
 go_enter Tryz.func13,Tryz.ntmps13
 go_wp2
 go_loopw [1,5] (fun m i wr=>∃(k:Nat) (left:Int),k≤len∧i= .int .i64 k∧m= .int .i64 left∧0≤left∧left≤1048576∧Hid (left+len+sumZ (ps.take k)=1048576)∧Hid (Below w.heap.size w wr)) (fun _ i _=>len-(intOf i).toNat)
 case atStart=>exact⟨0,1048576-(len:Int),by omega,rfl,rfl,by omega,by omega,zh (by simp[sumZ]),B0⟩
 case round=>
  clear B0
  obtain⟨k,left,hk,rfl,rfl,l0,l1,HS,HB⟩:=hrel
  by_cases t:k<len
  ·have tk:k<ps.length:=by omega
   have NX:=zh (sumZ_next tk)
   have F:=fit_el (zu HF) tk
   rcases(zu R).below (zu HB|>.mono (Nat.le_refl _)) with h|⟨b,off,rfl,lb,hc⟩
   ·omega
   obtain⟨d0,d1,d2⟩:=hc k tk
   have SF:=zh (fun u=>szF u (elF ps k).1 (elF ps k).2.1 (elF ps k).2.2 left l0 l1 F.1 F.2)
   have kt:(k:Int)<len:=by omega
   clear F hc
   generalize (elF ps k).1=y0 at *
   generalize (elF ps k).2.1=y1 at *
   generalize (elF ps k).2.2=y2 at *
   go_wp2_with fail
   refine((zu SF) _).mono ?_
   rintro e u ⟨r,rfl,hr,bb⟩
   have B1:=zh ((zu HB).trans (bb.mono (zu HB).size))
   clear bb SF
   rcases hr with rfl|⟨r0,r1⟩
   ·go_wp2
    go_ret
    exact⟨-1,rfl,.inl rfl,zu B1⟩
   ·have rn:¬r<0:=by omega
    have R1:=zh r1
    have L0:=zh (And.intro l0 l1)
    clear r1 l0 l1
    go_wp2
    go_roundw
    case rel=>exact⟨k+1,r,by omega,by go_num,rfl,r0,by have:=zu R1;have:=zu L0;omega,zh (by have:=zu R1;have:=zu HS;rw[zu NX];omega),B1⟩
    case measure=>simp[intOf];omega
  ·have e:k=len:=by omega
   subst e
   have S:=zu HS
   rw[←hl,List.take_length] at S
   have SS:=zh S
   have L0:=zh (And.intro l0 l1)
   clear S
   go_wp2
   go_ret
   exact⟨left,rfl,.inr ⟨zu L0,l20,by have:=zu SS;have:=zu L0;omega⟩,zu HB⟩
theorem szD(w:World)(room:Int)(a:Option Addr)(len cap:Nat)(ps:List TF)(hl:ps.length=len)(hx:len≤9223372036854775807)(hr:ReadsF w a ps)(hf:FitF ps):
  Calls Tryz.prog 4 #[.agg #[.int .i64 room,.slice a len cap],.int .i64 1048576] w fun e w'=>∃r,e= .returned (.int .i64 r)∧(r= -1∨((0≤r∧r≤1048576)∧len≤1048576∧sumZ ps≤1048576))∧Below w.heap.size w w':=by
 have b0:=one_more w (.cells #[.int .i64 room,.slice a len cap] 24)
 have S:=zh (szFS _ a len cap ps hl hx (hr.below b0) hf)
 have B0:=zh b0
 clear b0 hr hf
 go_enter Tryz.func4,Tryz.ntmps4
 go_wp2_with fail
 refine(zu S).mono ?_
 rintro e u ⟨r,rfl,h,bb⟩
 have B1:=zh ((zu B0).trans (bb.mono (zu B0).size))
 have H:=zh h
 clear bb S
 rcases h with rfl|⟨r0,_⟩
 ·go_wp2
  go_ret
  exact⟨-1,rfl,.inl rfl,zu B1⟩
 ·have rn:¬r<0:=by omega
  go_wp2
  go_ret
  exact⟨r,rfl,zu H,zu B1⟩
end DiskH14
namespace HelpF14
open Fil14
theorem info2:(Tryz.prog.info? 66).map (fun i=>(i.zero,i.size,i.bytes))=some (some (.agg #[.int .i64 0,.string ByteArray.empty,.string ByteArray.empty]),3,40):=by kernel_rfl
theorem to1(w:World)(x:Int)(y z:ByteArray):Calls Tryz.prog 37 #[.agg #[.int .i64 x,.string y,.string z]] w fun e w'=>e= .returned (.agg #[.int .i64 x,.string y,.string z])∧Below w.heap.size w w':=by
 go_enter Tryz.func37,Tryz.ntmps37
 go_wp2
 refine bodyPost_ret (v:= .agg #[.int .i64 x,.string y,.string z]) (by simp[results,Tryz.results37,go_sem]) rfl ⟨rfl,?_⟩
 exact(((Below.refl _ _).alloc (Nat.le_refl _) _).alloc (by simp) _).alloc (by simp;omega) _
theorem made_triples(n:Nat):(madeCells (Value.agg #[.int .i64 0,.string ByteArray.empty,.string ByteArray.empty]).cells (n*3)).toList=flatF (List.replicate n (0,ByteArray.empty,ByteArray.empty)):=by
 apply List.ext_getElem?
 intro j
 by_cases hj:j<n*3
 ·have hs:(Value.agg #[Value.int .i64 0,Value.string ByteArray.empty,Value.string ByteArray.empty]).cells= #[Value.int .i64 0,Value.string ByteArray.empty,Value.string ByteArray.empty]:=rfl
  rw[hs]
  obtain⟨f0,f1,f2⟩:=flatF_get (List.replicate n (0,ByteArray.empty,ByteArray.empty)) (j/3) (by simp;omega)
  have hg:(List.replicate n ((0:Int),ByteArray.empty,ByteArray.empty)).getD (j/3) (0,ByteArray.empty,ByteArray.empty)=(0,ByteArray.empty,ByteArray.empty):=by simp[List.getD,show j/3<n by omega]
  unfold elF at f0 f1 f2
  rw[hg] at f0 f1 f2
  rcases(show j%3=0∨j%3=1∨j%3=2 by omega) with e|e|e
  ·rw[show j/3*3=j by omega] at f0
   rw[f0]
   simp[madeCells,hj,e]
  ·rw[show j/3*3+1=j by omega] at f1
   rw[f1]
   simp[madeCells,hj,e]
  ·rw[show j/3*3+2=j by omega] at f2
   rw[f2]
   simp[madeCells,hj,e]
 ·rw[List.getElem?_eq_none (by simp[madeCells];omega),List.getElem?_eq_none (by rw[flatF_len];simp;omega)]
def part(ps:List TF)(n k:Nat):List TF:=ps.take k++List.replicate (n-k) (0,ByteArray.empty,ByteArray.empty)
theorem part_zero(ps:List TF)(n:Nat):part ps n 0=List.replicate n (0,ByteArray.empty,ByteArray.empty):=by simp[part]
theorem part_all(ps:List TF)(n:Nat)(h:ps.length=n):part ps n n=ps:=by
 unfold part
 rw[←h];simp
theorem part_step(ps:List TF)(n k:Nat)(h:ps.length=n)(hk:k<n):(((part ps n k).modify k fun p=>((elF ps k).1,p.2)).modify k (fun p=>(p.1,(elF ps k).2.1,p.2.2))).modify k (fun p=>(p.1,p.2.1,(elF ps k).2.2))=part ps n (k+1):=by
 subst h
 unfold part
 apply List.ext_getElem?
 intro j
 have l1:(ps.take k).length=k:=by simp;omega
 have l2:(ps.take (k+1)).length=k+1:=by simp;omega
 rw[List.getElem?_modify,List.getElem?_modify,List.getElem?_modify]
 by_cases e:k=j
 ·subst e
  rw[List.getElem?_append_right (by omega),List.getElem?_append_left (by omega),List.getElem?_take,if_pos (by omega),l1]
  simp[List.getD,hk,show 0<ps.length-k by omega]
 ·by_cases l:j<k
  ·rw[List.getElem?_append_left (by omega),List.getElem?_append_left (by omega),List.getElem?_take,List.getElem?_take,if_pos l,if_pos (by omega)]
   simp[e]
  ·rw[List.getElem?_append_right (by omega),List.getElem?_append_right (by omega),l1,l2]
   simp only[List.getElem?_replicate]
   by_cases m:j<ps.length
   ·rw[if_pos (by omega),if_pos (by omega)];simp[e]
   ·rw[if_neg (by omega),if_neg (by omega)];simp[e]
theorem toS(w:World)(a:Option Addr)(len cap:Nat)(ps:List TF)(hl:ps.length=len)(h20:len≤1048576)(hr:ReadsF w a ps):
  Calls Tryz.prog 19 #[.slice a len cap] w fun e w'=>e= .returned (.slice (some ⟨w.heap.size,0,none⟩) len len)∧OwnF 66 w' w.heap.size w.heap.size len len ps∧Below w.heap.size w w':=by
 obtain⟨i0,hi,hz0,hz1,hz2⟩:=info_parts info2
 go_enter Tryz.func19,Tryz.ntmps19
 go_wp2_with (at_make;refine wpList_make_full _ rfl _ _ 37 rfl w.heap.size 66 i0 (.agg #[.int .i64 0,.string ByteArray.empty,.string ByteArray.empty]) 3 Tryz.underlying37 hi hz0 hz1 .i64 .i64 _ _ len rfl rfl rfl rfl (by rw[hz2];omega) (by unfold maxLen;omega) (Nat.le_refl _) ?_;intro w1 hown hgrow)
 rw[made_triples,←part_zero ps] at hown
 have hb:=grownBy_below hgrow
 have hown:OwnF 66 w1 w.heap.size w.heap.size len len (part ps len 0):=hown
 clear hgrow
 go_loopw [4] (fun i wr=>∃(k:Nat),k≤len∧i= .int .i64 k∧OwnF 66 wr w.heap.size w.heap.size len len (part ps len k)∧Below w.heap.size w wr) (fun i _=>len-(intOf i).toNat)
 case atStart=>exact⟨0,by omega,rfl,hown,hb⟩
 case round=>
  clear hown hb
  obtain⟨k,hk,rfl,hown,hb⟩:=hrel
  by_cases t:k<len
  ·rcases hr with hz|⟨b,off,rfl,hlt,hcell⟩
   ·omega
   have hc0:=(hb.cell (p:=⟨b,off+k*3,none⟩) hlt).trans (hcell k (by omega)).1
   have hc1:=(hb.cell (p:=⟨b,off+k*3+1,none⟩) hlt).trans (hcell k (by omega)).2.1
   have hc2:=(hb.cell (p:=⟨b,off+k*3+2,none⟩) hlt).trans (hcell k (by omega)).2.2
   clear hcell
   have HO:=zh hown
   have HB:=zh hb
   clear hown hb
   have PS:=zh (part_step ps len k hl t)
   generalize (elF ps k).1=x at *
   generalize (elF ps k).2.1=y at *
   generalize (elF ps k).2.2=z at *
   go_wp2_with fail
   refine(to1 _ x y z).mono ?_
   rintro e w2 ⟨rfl,b2⟩
   have o2:=(zu HO).below b2 (zu HO).lt.2
   have hb2:=(zu HB).trans (b2.mono (zu HB).size)
   clear HO HB b2 hc0 hc1 hc2
   have hs:=o2.set0 k x
   have hs2:=hs.1.set1 k y
   have hs3:=hs2.1.set2 k z
   have hd:=o2.at k (by rw[o2.len];exact t)
   have hd0:=hd.1
   have hd1:=hd.2.1
   have hd2:=hd.2.2
   have hf0:=o2.free (k*3)
   have hf1:=o2.free (k*3+1)
   have hf2:=o2.free (k*3+2)
   have HS:=zh hs3.1
   have HB:=zh (((hb2.setCell (p:=⟨w.heap.size,k*3,none⟩) (Nat.le_refl _) (.int .i64 x)).setCell (p:=⟨w.heap.size,k*3+1,none⟩) (Nat.le_refl _) (.string y)).setCell (p:=⟨w.heap.size,k*3+2,none⟩) (Nat.le_refl _) (.string z))
   clear hs hs2 hs3 hd o2 hb2
   go_wp2
   go_roundw
   case rel=>
    have o:=zu HS
    rw[zu PS] at o
    exact⟨k+1,by omega,by go_num,o,zu HB⟩
   case measure=>simp[intOf];omega
  ·obtain rfl:k=len:=by omega
   rw[part_all ps k hl] at hown
   have HO:=zh hown
   have HB:=zh hb
   clear hown hb hr
   go_wp2
   go_ret
   exact⟨rfl,zu HO,zu HB⟩
theorem eq1(w:World)(x:Int)(y z:ByteArray):Calls Tryz.prog 51 #[.agg #[.int .i64 x,.string y,.string z],.agg #[.int .i64 x,.string y,.string z]] w fun e w'=>e= .returned (.bool true)∧w'=(w.alloc (.cells #[.int .i64 x,.string y,.string z] 66)).alloc (.cells #[.int .i64 x,.string y,.string z] 66):=by
 go_enter Tryz.func51,Tryz.ntmps51
 go_wp2
 go_ret
 exact⟨rfl,rfl⟩
theorem two_more(w:World)(o p:Obj):Below w.heap.size w ((w.alloc o).alloc p).drew:=(((Below.refl _ _).alloc (Nat.le_refl _) _).alloc (by simp) _).drew
theorem eqS(w:World)(g1 g2 n c1 c2:Nat)(ps:List TF)(hl:ps.length=n)(h20:n≤1048576)(l1:g1<w.heap.size)(l2:g2<w.heap.size)(h1:AtF w g1 ps)(h2:AtF w g2 ps):
  Calls Tryz.prog 26 #[.slice (some ⟨g1,0,none⟩) n c1,.slice (some ⟨g2,0,none⟩) n c2] w fun e w'=>e= .returned (.bool true)∧Below w.heap.size w w':=by
 go_enter Tryz.func26,Tryz.ntmps26
 go_wp2
 go_loopw [5] (fun i wr=>∃(k:Nat),k≤n∧i= .int .i64 k∧AtF wr g1 ps∧AtF wr g2 ps∧Below w.heap.size w wr) (fun i _=>n-(intOf i).toNat)
 case atStart=>exact⟨0,by omega,rfl,h1,h2,Below.refl _ _⟩
 case round=>
  clear h1 h2
  obtain⟨k,hk,rfl,h1,h2,hb⟩:=hrel
  by_cases t:k<n
  ·obtain⟨e1,f1,i1⟩:=h1 k (by omega)
   obtain⟨e2,f2,i2⟩:=h2 k (by omega)
   have s:=hb.size
   have H1:=zh h1
   have H2:=zh h2
   have HB:=zh hb
   clear h1 h2 hb
   generalize (elF ps k).1=x at *
   generalize (elF ps k).2.1=y at *
   generalize (elF ps k).2.2=z at *
   go_wp2_with fail
   go_region_held3 (fun w'=>w'.cell? ⟨g1,k*3,none⟩=some (.int .i64 x)∧w'.cell? ⟨g2,k*3,none⟩=some (.int .i64 x)∧w'.cell? ⟨g1,k*3+1,none⟩=some (.string y)∧w'.cell? ⟨g2,k*3+1,none⟩=some (.string y)∧w'.cell? ⟨g1,k*3+2,none⟩=some (.string z)∧w'.cell? ⟨g2,k*3+2,none⟩=some (.string z)) (go_keep)
    (first|(go_at_call 51;refine(eq1 _ _ _ _).mono ?_;rintro e w2 ⟨rfl,rfl⟩))
   all_goals(go_wp2;go_roundw)
   all_goals first
    |(have b2:=two_more wr (.cells #[.int .i64 x,.string y,.string z] 66) (.cells #[.int .i64 x,.string y,.string z] 66)
      exact⟨k+1,by omega,by go_num,(zu H1).below b2 (by omega),(zu H2).below b2 (by omega),next (zu HB) b2⟩)
    |(simp[intOf];omega)
  ·have HB:=zh hb
   clear h1 h2 hb
   go_wp2
   go_ret
   exact⟨rfl,zu HB⟩
end HelpF14
namespace MarkF14
open Fil14
def dg(k:Nat)(s:ByteArray):ByteArray:=if 0<k then dg (k/10) (strOfNums [48+(k:Int)%10]++s) else s
termination_by k
decreasing_by omega
def mt(k:Int):ByteArray:=⟨#[109]⟩++dg k.toNat ⟨#[]⟩
theorem dg_more{k:Nat}{s:ByteArray}(h:0<k):dg k s=dg (k/10) (strOfNums [48+(k:Int)%10]++s):=by rw[dg,if_pos h]
theorem dg_last{k:Nat}{s:ByteArray}(h:¬0<k):dg k s=s:=by rw[dg,if_neg h]
theorem markT(w:World)(k0:Int)(h0:0<k0)(h1:k0≤100000000):
  Calls Tryz.prog 52 #[.int .i64 k0] w fun e w'=>e= .returned (.string (mt k0))∧Below w.heap.size w w':=by
 obtain⟨r,hr⟩:∃r,Hid (mt k0=r):=⟨_,rfl⟩
 rw[zu hr]
 have S0:=zh (show(⟨#[109]⟩:ByteArray)++dg k0.toNat ⟨#[]⟩=r from zu hr)
 go_enter Tryz.func52,Tryz.ntmps52
 go_wp2
 go_loopw [0,3] (fun a o wr=>∃(k:Int) (s:ByteArray),a= .int .i64 k∧o= .string s∧0≤k∧k≤100000000∧Hid ((⟨#[109]⟩:ByteArray)++dg k.toNat s=r)∧Hid (s.size+k.toNat≤100000000)∧Hid (Below w.heap.size w wr)) (fun a _ _=>(intOf a).toNat)
 case atStart=>exact⟨k0,⟨#[]⟩,rfl,rfl,by omega,h1,S0,zh (by have:(⟨#[]⟩:ByteArray).size=0:=rfl;omega),zh (Below.refl _ _)⟩
 case round=>
  clear S0 h0 h1
  obtain⟨k,s,rfl,rfl,k1,k2,HD,HZ,HB⟩:=hrel
  have hz:=zu HZ
  by_cases t:0<k
  ·have ND:=zh (show(⟨#[109]⟩:ByteArray)++dg (k/10).toNat (strOfNums [48+k%10]++s)=r from by
    rw[←zu HD,dg_more (k:=k.toNat) (by omega),show((k.toNat:Nat):Int)=k by omega,show k.toNat/10=(k/10).toNat by omega])
   have CV:=run_convert_bytes_arg (P:=Tryz.prog) (wr.alloc (.cells #[.int .u8 (48+k%10)] 5)) 49 5 Tryz.underlying49 Tryz.underlying5 wr.heap.size 0 1 1 [48+k%10] rfl (fun i hi=>by
    have:i=0:=by omega
    subst this
    simp) 9 Tryz.underlying9
   have cz:=strOfNums_size [48+k%10]
   have E:=zh (show wrap64 (k.tdiv 10)=k/10 from by rw[Int.tdiv_eq_ediv_of_nonneg k1,wrap64];omega)
   have B1:=zh ((zu HB).alloc (zu HB).size (.cells #[.int .u8 (48+k%10)] 5))
   have KK:=zh (And.intro k1 k2)
   have cz1:(strOfNums [48+k%10]).size=1:=cz
   obtain⟨c,hc⟩:∃c,Hid (strOfNums [48+k%10]=c):=⟨_,rfl⟩
   rw[zu hc] at CV ND cz1
   have sz:¬(c.size+s.size>9223372036854775807):=by omega
   have CZ:=zh cz1
   clear cz cz1 hc HD
   go_wp2
   go_roundw
   case rel=>
    have kk:=zu KK
    exact⟨k/10,c++s,by first|rfl|(congr 1;exact zu E),rfl,by omega,by omega,ND,zh (by have:=zu CZ;rw[ByteArray.size_append];omega),B1⟩
   case measure=>
    have kk:=zu KK
    have e:=zu E
    simp[intOf]
    omega
  ·have e:k=0:=by omega
   subst e
   have D:=zu HD
   rw[dg_last (by simp)] at D
   have HD2:=zh D
   have sz:¬((⟨#[109]⟩:ByteArray).size+s.size>9223372036854775807):=by have:(⟨#[109]⟩:ByteArray).size=1:=rfl;omega
   clear D HD
   go_wp2
   go_ret
   exact⟨by rw[←zu HD2];rfl,zu HB⟩
end MarkF14
namespace MarkFS14
open Fil14 MarkF14
def marks(s:Int)(n:Nat):List TF:=(List.range n).map fun(i:Nat)=>(s+3*(i:Int),mt (s+3*(i:Int)+1),mt (s+3*(i:Int)+2))
theorem marks_len(s:Int)(n:Nat):(marks s n).length=n:=by simp[marks]
theorem marks_getD(s:Int)(n i:Nat)(h:i<n):elF (marks s n) i=(s+3*(i:Int),mt (s+3*(i:Int)+1),mt (s+3*(i:Int)+2)):=by simp[marks,List.getD,h]
def marked(s:Int)(ps:List TF)(n j:Nat):List TF:=(marks s n).take j++ps.drop j
theorem marked_zero(s:Int)(ps:List TF)(n:Nat):marked s ps n 0=ps:=by simp[marked]
theorem marked_all(s:Int)(ps:List TF)(n:Nat)(h:ps.length=n):marked s ps n n=marks s n:=by
 unfold marked
 rw[List.take_of_length_le (by rw[marks_len];exact Nat.le_refl _),List.drop_of_length_le (by omega),List.append_nil]
theorem marked_step(s:Int)(ps:List TF)(n j:Nat)(h:ps.length=n)(hj:j<n):(((marked s ps n j).modify j fun p=>(s+3*(j:Int),p.2)).modify j (fun p=>(p.1,mt (s+3*(j:Int)+1),p.2.2))).modify j (fun p=>(p.1,p.2.1,mt (s+3*(j:Int)+2)))=marked s ps n (j+1):=by
 unfold marked
 have l:=marks_len s n
 have g:=marks_getD s n j hj
 have l1:((marks s n).take j).length=j:=by simp;omega
 have l2:((marks s n).take (j+1)).length=j+1:=by simp;omega
 apply List.ext_getElem?
 intro i
 rw[List.getElem?_modify,List.getElem?_modify,List.getElem?_modify]
 by_cases e:j=i
 ·subst e
  rw[List.getElem?_append_right (by omega),List.getElem?_append_left (by omega),List.getElem?_take,if_pos (by omega),l1]
  have hg:(marks s n)[j]?=some (s+3*(j:Int),mt (s+3*(j:Int)+1),mt (s+3*(j:Int)+2)):=by
   rw[←g];simp[List.getD,l,hj]
  rw[hg]
  simp[List.getElem?_drop,h,hj]
 ·by_cases d:i<j
  ·rw[List.getElem?_append_left (by omega),List.getElem?_append_left (by omega),List.getElem?_take,List.getElem?_take,if_pos d,if_pos (by omega)]
   simp[e]
  ·rw[List.getElem?_append_right (by omega),List.getElem?_append_right (by omega),l1,l2]
   simp only[List.getElem?_drop]
   rw[show j+(i-j)=i by omega,show j+1+(i-(j+1))=i by omega]
   simp[e]
theorem markS(w:World)(base g n cap:Nat)(s:Int)(ps:List TF)(h20:n≤1048576)(s0:1≤s)(s1:s≤90000000)(hb0:base≤w.heap.size)(ho:OwnF 66 w base g n cap ps):
  Calls Tryz.prog 27 #[.slice (some ⟨g,0,none⟩) n cap,.int .i64 s] w fun e w'=>e= .returned (.int .i64 (s+3*(n:Int)))∧OwnF 66 w' base g n cap (marks s n)∧w.grownBy w' (some g):=by
 have hl:=ho.len
 have ho':OwnF 66 w base g n cap (marked s ps n 0):=by rw[marked_zero];exact ho
 clear ho
 go_enter Tryz.func27,Tryz.ntmps27
 go_wp2
 go_loopw [1,5] (fun m i wr=>∃(k:Nat),k≤n∧i= .int .i64 k∧m= .int .i64 (s+3*(k:Int))∧OwnF 66 wr base g n cap (marked s ps n k)∧w.grownBy wr (some g)) (fun _ i _=>n-(intOf i).toNat)
 case atStart=>exact⟨0,by omega,rfl,by go_num,ho',World.grownBy.refl _ _⟩
 case round=>
  clear ho'
  obtain⟨k,hk,rfl,rfl,hown,hg⟩:=hrel
  by_cases t:k<n
  ·obtain⟨o1,q1⟩:=hown.set0 k (s+3*(k:Int))
   obtain⟨hd0,hd1,hd2⟩:=hown.at k (by rw[OwnF.len hown];exact t)
   have hf0:=hown.free (k*3)
   have HO1:=zh o1
   have HG1:=zh (grown_trans hg q1)
   have ms:=marked_step s ps n k hl t
   rw[show s+3*(k:Int)+2=s+3*(k:Int)+1+1 by omega] at ms
   have MS:=zh ms
   clear ms
   clear hown hg o1 q1 hd1 hd2
   generalize (elF (marked s ps n k) k).1=z0 at hd0
   generalize marked s ps n k=mk at *
   have r1:IntKind.i64.wrap (s+3*(k:Int)+1)=s+3*(k:Int)+1:=by rw[IntKind.wrap_i64];omega
   have r2:IntKind.i64.wrap (s+3*(k:Int)+1+1)=s+3*(k:Int)+1+1:=by rw[IntKind.wrap_i64];omega
   have r3:IntKind.i64.wrap (s+3*(k:Int)+1+1+1)=s+3*(k:Int)+1+1+1:=by rw[IntKind.wrap_i64];omega
   go_wp2_with fail
   refine(markT _ (s+3*(k:Int)+1) (by omega) (by omega)).mono ?_
   rintro e u1 ⟨rfl,bb⟩
   have a1:=(zu HO1).below bb (zu HO1).lt.2
   have G2:=zh (grown_trans (zu HG1) ⟨bb.os,bb.tape,bb.output,bb.size,fun i hi _=>bb.block i hi⟩)
   obtain⟨o2,q2⟩:=a1.set1 k (mt (s+3*(k:Int)+1))
   obtain⟨_,hd1,_⟩:=a1.at k (by rw[OwnF.len a1];exact t)
   have hf1:=a1.free (k*3+1)
   have HO2:=zh o2
   have HG2:=zh (grown_trans (zu G2) q2)
   clear bb a1 o2 q2 G2 HO1 HG1 hd0 hf0
   generalize (elF (mk.modify k fun p=>(s+3*(k:Int),p.2)) k).2.1=z1 at hd1
   generalize mk.modify k (fun p=>(s+3*(k:Int),p.2))=mk1 at *
   go_wp2_with fail
   refine(markT _ (s+3*(k:Int)+1+1) (by omega) (by omega)).mono ?_
   rintro e u2 ⟨rfl,bb⟩
   have a2:=(zu HO2).below bb (zu HO2).lt.2
   have G3:=zh (grown_trans (zu HG2) ⟨bb.os,bb.tape,bb.output,bb.size,fun i hi _=>bb.block i hi⟩)
   obtain⟨o3,q3⟩:=a2.set2 k (mt (s+3*(k:Int)+1+1))
   obtain⟨_,_,hd2⟩:=a2.at k (by rw[OwnF.len a2];exact t)
   have hf2:=a2.free (k*3+2)
   have HO3:=zh o3
   have HG3:=zh (grown_trans (zu G3) q3)
   clear bb a2 o3 q3 G3 HO2 HG2 hd1 hf1
   generalize (elF (mk1.modify k fun p=>(p.1,mt (s+3*(k:Int)+1),p.2.2)) k).2.2=z2 at hd2
   go_wp2
   go_roundw
   case rel=>exact⟨k+1,by omega,by go_num,by go_num,by have h:=zu HO3;rw[zu MS] at h;exact h,zu HG3⟩
   case measure=>simp[intOf];omega
  ·obtain rfl:k=n:=by omega
   rw[marked_all s ps k hl] at hown
   have HO:=zh hown
   have HG:=zh hg
   clear hown hg
   go_wp2
   go_ret
   exact⟨rfl,zu HO,zu HG⟩
end MarkFS14
namespace DkH14
open Fil14 OpensF14 DiskH14
open MarkFS14 (marks marks_len)
structure Dx where
 room:Int
 a:Option Addr
 c:Nat
 ps:List TF
structure RdD(w:World)(x:Dx):Prop where
 e:x.ps.length≠0→∃g,x.a=some ⟨g,0,none⟩
 r:∀g,x.a=some ⟨g,0,none⟩→g<w.heap.size∧AtF w g x.ps
 n:x.ps.length≤1048576
theorem RdD.below{w w':World}{x:Dx}(h:RdD w x)(k:Below w.heap.size w w'):RdD w' x:=⟨h.e,fun g e=>⟨Nat.lt_of_lt_of_le (h.r g e).1 k.size,(h.r g e).2.below k (h.r g e).1⟩,h.n⟩
def OwD(w:World)(base:Nat)(x:Dx):Prop:=w.ownsRow base 66 3 (.slice x.a x.ps.length x.c) x.ps.length (flatF x.ps)
def OmD(w:World)(base:Nat)(x:Dx):Prop:=w.ownsRow base 66 3 (.slice x.a x.ps.length x.c) x.ps.length (flatF (marks 1 x.ps.length))
theorem row_step{W W':World}{base:Nat}{e:TypeId}{m:Nat}{v:Value}{n:Nat}{vs:List Value}(h:W.ownsRow base e m v n vs)(k:Below W.heap.size W W'):W'.ownsRow base e m v n vs:=
 World.ownsRow.kept h (row:=none) ⟨k.os,k.tape,k.output,k.size,fun i hi _=>k.block i hi⟩ (by
  cases hb:v.ownBlock with
  |none=>exact .inl rfl
  |some g=>exact .inr (by simp))
theorem addr_of{W:World}{base:Nat}{e:TypeId}{m n c:Nat}{a:Option Addr}{vs:List Value}(h:W.ownsRow base e m (.slice a n c) n vs):(n≠0→∃g,a=some ⟨g,0,none⟩)∧∀g,a=some ⟨g,0,none⟩→g<W.heap.size:=by
 refine⟨fun hn=>?_,fun g e=>(World.ownsRow.lt h g (by rw[e];rfl)).2⟩
 rcases h.2 with⟨h1,_⟩|⟨g,c',cur,h1,_⟩
 ·have:n=0:=by simp at h1;omega
  exact absurd this hn
 ·have:a=some ⟨g,0,none⟩∧c=c':=by simpa using h1
  exact⟨g,this.1⟩
theorem OwD.rd{w:World}{base:Nat}{x:Dx}(h:OwD w base x)(hn:x.ps.length≤1048576):RdD w x:=by
 refine⟨(addr_of h).1,fun g e=>⟨(addr_of h).2 g e,?_⟩,hn⟩
 have o:=h
 unfold OwD at o
 rw[e] at o
 exact OwnF.at o
theorem OwD.step{w w':World}{base:Nat}{x:Dx}(h:OwD w base x)(k:Below w.heap.size w w'):OwD w' base x:=row_step h k
theorem OmD.step{w w':World}{base:Nat}{x:Dx}(h:OmD w base x)(k:Below w.heap.size w w'):OmD w' base x:=row_step h k
def Bc(w:World)(base g:Nat)(v0 v1:Value):Prop:=w.ownsRow base 39 2 (.slice (some ⟨g,0,none⟩) 1 1) 1 [v0,v1]
theorem Bc.made{w:World}{base g:Nat}(v0 v1:Value)(hb:base≤w.heap.size)(hg:g=w.heap.size):Bc (w.alloc (.cells #[v0,v1] 39)) base g v0 v1:=by
 subst hg
 exact⟨rfl,.inr ⟨w.heap.size,1,#[v0,v1],rfl,hb,heap_alloc_new w _,Nat.le_refl _,by unfold maxLen;omega,rfl,rfl⟩⟩
section
variable {w w':World} {base g:Nat} {v0 v1:Value}
theorem Bc.lt(h:Bc w base g v0 v1):base≤g∧g<w.heap.size:=World.ownsRow.lt h g rfl
theorem Bc.free(h:Bc w base g v0 v1)(i:Nat):w.frozen? ⟨g,i,none⟩=false:=World.ownsRow.frozenAt h i
theorem Bc.c0(h:Bc w base g v0 v1):w.cell? ⟨g,0,none⟩=some v0:=(World.ownsRow.cellAt h 0 (by omega)).trans rfl
theorem Bc.c1(h:Bc w base g v0 v1):w.cell? ⟨g,1,none⟩=some v1:=(World.ownsRow.cellAt h 1 (by omega)).trans rfl
theorem Bc.set0(h:Bc w base g v0 v1)(u:Value):Bc (w.setCell ⟨g,0,none⟩ u) base g u v1∧w.grownBy (w.setCell ⟨g,0,none⟩ u) (some g):=World.ownsRow.stored h 0 u
theorem Bc.kept{row:Option Nat}(h:Bc w base g v0 v1)(k:w.grownBy w' row)(hne:some g≠row):Bc w' base g v0 v1:=World.ownsRow.kept h k (Or.inr hne)
theorem Bc.below{B:Nat}(h:Bc w base g v0 v1)(k:Below B w w')(hg:g<B):Bc w' base g v0 v1:=by
 refine⟨h.1,?_⟩
 rcases h.2 with⟨h1,_⟩|⟨g',c,cur,h1,h2,h3,h4⟩
 ·simp at h1
 ·have e:g=g':=by simp at h1;exact h1.1
  subst e
  exact .inr ⟨g,c,cur,h1,h2,(k.block g hg).trans h3,h4⟩
end
theorem row_store{w:World}{base g n cap:Nat}{xs:List TF}(h:OwnF 66 w base g n cap xs){a:Addr}(ha:a.block<base)(u:Value):OwnF 66 (w.setCell a u) base g n cap xs:=ownsRow_setCell_below h ha u
theorem toD0(w:World)(k:Int)(a:Option Addr)(len cap:Nat)(xs:List TF)(hl:xs.length=len)(h20:len≤1048576)(hr:ReadsF w a xs):
  Calls Tryz.prog 6 #[.agg #[.int .i64 k,.slice a len cap]] w fun e w'=>∃g,e= .returned (.agg #[.int .i64 k,.slice (some ⟨g,0,none⟩) len len])∧OwnF 66 w' w.heap.size g len len xs∧Below w.heap.size w w':=by
 have F:∀W1,W1=w.alloc (.cells #[.int .i64 k,.slice a len cap] 24)→∀W2,W2=W1.alloc (.cells #[.int .i64 0,.slice none 0 0] 39)→∀W3,W3=W2.alloc (.cells #[.int .i64 k,.slice none 0 0] 39)→
   Below w.heap.size w W3∧Bc W3 w.heap.size (w.heap.size+1) (.int .i64 0) (.slice none 0 0)∧Bc W3 w.heap.size (w.heap.size+1+1) (.int .i64 k) (.slice none 0 0)∧W3.heap.size=w.heap.size+3:=by
  intro W1 h1 W2 h2 W3 h3
  have s1:W1.heap.size=w.heap.size+1:=by rw[h1];simp
  have s2:W2.heap.size=w.heap.size+1+1:=by rw[h2];simp[s1]
  have s3:W3.heap.size=w.heap.size+3:=by rw[h3];simp[s2]
  have b1:Below w.heap.size w W1:=by rw[h1];exact one_more _ _
  have b2:Below W1.heap.size W1 W2:=by rw[h2];exact one_more _ _
  have b3:Below W2.heap.size W2 W3:=by rw[h3];exact one_more _ _
  have R1:Bc W2 w.heap.size (w.heap.size+1) (.int .i64 0) (.slice none 0 0):=by rw[h2];exact Bc.made _ _ (by omega) s1.symm
  have O1:Bc W3 w.heap.size (w.heap.size+1+1) (.int .i64 k) (.slice none 0 0):=by rw[h3];exact Bc.made _ _ (by omega) s2.symm
  exact⟨(b1.trans (b2.mono (by omega))).trans (b3.mono (by omega)),R1.below b3 (by omega),O1,s3⟩
 have G:=zh (F _ rfl _ rfl _ rfl)
 have HR:=zh hr
 clear F hr
 go_enter Tryz.func6,Tryz.ntmps6
 go_wp2_with fail
 refine(HelpF14.toS _ a len cap xs hl h20 ((zu HR).below (zu G).1)).mono ?_
 rintro e w1 ⟨rfl,o,bb⟩
 obtain⟨BW,R0,O0,s3⟩:=zu G
 rw[s3] at o
 have R1:=R0.below bb (by omega)
 have O1:=O0.below bb (by omega)
 have B1:=zh (BW.trans (bb.mono BW.size))
 have OX:=zh o
 have z1:=bb.size
 have c0:=O1.c0
 have c1:=O1.c1
 have d0:=O1.free 0
 have d1:=O1.free 1
 have r0:=R1.c0
 have r1:=R1.c1
 have f0:=R1.free 0
 have f1:=R1.free 1
 clear bb o BW R0 O0 G HR R1 O1
 simp only[s3] at *
 go_wp2
 refine bodyPost_ret (v:= .agg #[.int .i64 k,.slice (some ⟨w.heap.size+3,0,none⟩) len len]) (by simp[results,Tryz.results6,go_sem,r0,r1]) rfl ⟨w.heap.size+3,rfl,?_,?_⟩
 ·exact(row_store (row_store (row_store (zu OX) (a:=⟨w.heap.size+1+1,1,none⟩) (by simp) _) (a:=⟨w.heap.size+1,0,none⟩) (by simp) _) (a:=⟨w.heap.size+1,1,none⟩) (by simp) _).rebase (by omega)
 ·exact(((zu B1).setCell (p:=⟨w.heap.size+1+1,1,none⟩) (by simp;omega) _).setCell (p:=⟨w.heap.size+1,0,none⟩) (by simp) _).setCell (p:=⟨w.heap.size+1,1,none⟩) (by simp) _
theorem toD(w:World)(room:Int)(a:Option Addr)(len cap:Nat)(ps:List TF)(hl:ps.length=len)(h20:len≤1048576)(hr:ReadsF w a ps):
  Calls Tryz.prog 6 #[.agg #[.int .i64 room,.slice a len cap]] w fun e w'=>∃x:Dx,x.room=room∧x.ps=ps∧e= .returned (.agg #[.int .i64 x.room,.slice x.a x.ps.length x.c])∧OwD w' w.heap.size x∧Below w.heap.size w w':=
 (toD0 w room a len cap ps hl h20 hr).mono fun e w' ⟨g,h1,h2,h3⟩=>⟨⟨room,some ⟨g,0,none⟩,len,ps⟩,rfl,rfl,by subst hl;exact h1,by subst hl;exact h2,h3⟩
theorem eqN(w:World)(a1 a2:Option Addr)(c1 c2:Nat):Calls Tryz.prog 26 #[.slice a1 0 c1,.slice a2 0 c2] w fun e w'=>e= .returned (.bool true)∧w'=w:=by
 go_enter Tryz.func26,Tryz.ntmps26
 go_wp2
 go_loopw [5] (fun j wr=>j= .int .i64 0∧wr=w) (fun _ _=>0)
 case atStart=>exact⟨rfl,rfl⟩
 case round=>
  obtain⟨rfl,rfl⟩:=hrel
  go_wp2
  go_ret
  exact⟨rfl,rfl⟩
theorem eqV(w:World)(x y:Dx)(hp:y.ps=x.ps)(hx:RdD w x)(hy:RdD w y):Calls Tryz.prog 26 #[.slice x.a x.ps.length x.c,.slice y.a x.ps.length y.c] w fun e w'=>e= .returned (.bool true)∧Below w.heap.size w w':=by
 by_cases z:x.ps.length=0
 ·rw[z]
  exact(eqN w _ _ _ _).mono fun e w' ⟨h1,h2⟩=>⟨h1,by rw[h2];exact Below.refl _ _⟩
 ·obtain⟨g1,e1⟩:=hx.e z
  obtain⟨g2,e2⟩:=hy.e (by rw[hp];exact z)
  have a1:=hx.r g1 e1
  have a2:=hy.r g2 e2
  rw[hp] at a2
  rw[e1,e2]
  exact HelpF14.eqS w g1 g2 _ _ _ x.ps rfl hx.n a1.1 a2.1 a1.2 a2.2
theorem eqD(w:World)(x y:Dx)(hr:y.room=x.room)(hp:y.ps=x.ps)(hx:RdD w x)(hy:RdD w y):
  Calls Tryz.prog 9 #[.agg #[.int .i64 x.room,.slice x.a x.ps.length x.c],.agg #[.int .i64 y.room,.slice y.a y.ps.length y.c]] w fun e w'=>e= .returned (.bool true)∧Below w.heap.size w w':=by
 have b1:=one_more w (.cells #[.int .i64 x.room,.slice x.a x.ps.length x.c] 39)
 have b2:=one_more (w.alloc (.cells #[.int .i64 x.room,.slice x.a x.ps.length x.c] 39)) (.cells #[.int .i64 y.room,.slice y.a y.ps.length y.c] 39)
 have B:=zh (b1.trans (b2.mono b1.size))
 have E:=zh (eqV _ x y hp (hx.below (zu B)) (hy.below (zu B)))
 rw[hr,hp] at B⊢
 rw[hr,hp] at E
 have q:(x.room !=x.room)=false:=by simp
 clear hx hy b1 b2 hr hp
 go_enter Tryz.func9,Tryz.ntmps9
 go_wp2_with fail
 refine(zu E).mono ?_
 rintro e u ⟨rfl,bb⟩
 have B2:=zh ((zu B).trans (bb.mono (zu B).size))
 clear bb
 go_wp2
 go_ret
 exact⟨rfl,zu B2⟩
theorem markN(w:World)(a:Option Addr)(c:Nat)(s:Int):Calls Tryz.prog 27 #[.slice a 0 c,.int .i64 s] w fun e w'=>e= .returned (.int .i64 s)∧w'=w:=by
 go_enter Tryz.func27,Tryz.ntmps27
 go_wp2
 go_loopw [1,5] (fun m j wr=>m= .int .i64 s∧j= .int .i64 0∧wr=w) (fun _ _ _=>0)
 case atStart=>exact⟨rfl,rfl,rfl⟩
 case round=>
  obtain⟨rfl,rfl,rfl⟩:=hrel
  go_wp2
  go_ret
  exact⟨rfl,rfl⟩
theorem markV(w:World)(base:Nat)(x:Dx)(hn:x.ps.length≤1048576)(hb:base≤w.heap.size)(ho:OwD w base x):
  Calls Tryz.prog 27 #[.slice x.a x.ps.length x.c,.int .i64 1] w fun e w'=>e= .returned (.int .i64 (1+3*(x.ps.length:Int)))∧OmD w' base x∧w.grownBy w' (Value.slice x.a x.ps.length x.c).ownBlock:=by
 unfold OwD at ho
 unfold OmD
 generalize hl:x.ps.length=n at *
 generalize x.a=a at *
 generalize x.c=c at *
 have ho':=ho
 rcases ho.2 with⟨h1,h2⟩|⟨g,c',cur,h1,_⟩
 ·obtain⟨rfl,_,rfl⟩:a=none∧n=0∧c=0:=by simpa using h1
  subst h2
  exact(markN w _ _ 1).mono fun e w' ⟨q1,q2⟩=>⟨by rw[q1];simp,by rw[q2];exact World.ownsRow_nil w base _ _,by rw[q2];exact World.grownBy.refl _ _⟩
 ·obtain⟨rfl,rfl⟩:a=some ⟨g,0,none⟩∧c=c':=by simpa using h1
  exact MarkFS14.markS w base g n c 1 x.ps hn (by omega) (by omega) hb ho'
structure TurnD(x:Dx)(w w':World):Prop where
 os:w'.os=w.os
 tape:w'.tape=w.tape
 output:w'.output=w.output
 size:w.heap.size≤w'.heap.size
 block:∀k,k<w.heap.size→some k≠(Value.slice x.a x.ps.length x.c).ownBlock→w'.heap[k]?=w.heap[k]?
theorem TurnD.below{x:Dx}{w w':World}{base:Nat}(h:TurnD x w w')(o:OwD w base x)(hb:base≤w.heap.size):Below base w w':=
 ⟨h.os,h.tape,h.output,h.size,fun j hj=>h.block j (by omega) (fun e=>by have:=(World.ownsRow.lt o j e.symm).1;omega)⟩
theorem markD(w:World)(base:Nat)(x:Dx)(hn:x.ps.length≤1048576)(hb:base≤w.heap.size)(ho:OwD w base x):
  Calls Tryz.prog 10 #[.agg #[.int .i64 x.room,.slice x.a x.ps.length x.c],.int .i64 1] w fun e w'=>e= .returned (.int .i64 (1+3*(x.ps.length:Int)))∧OmD w' base x∧TurnD x w w':=by
 have b1:=one_more w (.cells #[.int .i64 x.room,.slice x.a x.ps.length x.c] 39)
 have M:=zh (markV _ base x hn (Nat.le_trans hb b1.size) (ho.step b1))
 have B1:=zh b1
 clear ho b1
 go_enter Tryz.func10,Tryz.ntmps10
 go_wp2_with fail
 refine(zu M).mono ?_
 rintro e u ⟨rfl,o,gr⟩
 have O:=zh o
 have T:=zh (show TurnD x w u from⟨gr.os.trans (zu B1).os,gr.tape.trans (zu B1).tape,gr.output.trans (zu B1).output,Nat.le_trans (zu B1).size gr.size,fun k hk ne=>(gr.block k (Nat.lt_of_lt_of_le hk (zu B1).size) ne).trans ((zu B1).block k hk)⟩)
 clear o gr M
 go_wp2
 go_ret
 exact⟨rfl,zu O,zu T⟩
end DkH14
namespace SDk14
open Fil14 OpensF14 DiskH14 DkH14
def findF(ps:List TF)(nm:Int):Int:=match ps.findIdx? (fun p=>p.1==nm) with|some i=>i|none=> -1
theorem sumZ_le(ps:List TF)(k:Nat):sumZ (ps.take k)≤sumZ ps:=by
 have:=sumZ_append (ps.take k) (ps.drop k)
 rw[List.take_append_drop] at this
 omega
theorem cells_of{w:World}{x:Dx}(h:RdD w x){k:Nat}(hk:k<x.ps.length):∃g,x.a=some ⟨g,0,none⟩∧g<w.heap.size∧HoldsF w g (k*3) (elF x.ps k):=by
 obtain⟨g,e⟩:=h.e (by omega)
 exact⟨g,e,(h.r g e).1,(h.r g e).2 k hk⟩
structure Wd(w wr:World)(x:Dx):Prop where
 c0:wr.cell? ⟨w.heap.size,0,none⟩=some (.int .i64 x.room)
 c1:wr.cell? ⟨w.heap.size,1,none⟩=some (.slice x.a x.ps.length x.c)
 lt:w.heap.size<wr.heap.size
 b:Below w.heap.size w wr
 r:RdD wr x
theorem Wd.made{w:World}{x:Dx}(hr:RdD w x)(t:TypeId):Wd w (w.alloc (.cells #[.int .i64 x.room,.slice x.a x.ps.length x.c] t)) x:=
 ⟨by simp[go_sem],by simp[go_sem],by simp,one_more _ _,hr.below (one_more _ _)⟩
theorem Wd.step{w wr wz:World}{x:Dx}(h:Wd w wr x)(k:Below wr.heap.size wr wz):Wd w wz x:=
 ⟨(k.cell (p:=⟨w.heap.size,0,none⟩) h.lt).trans h.c0,(k.cell (p:=⟨w.heap.size,1,none⟩) h.lt).trans h.c1,Nat.lt_of_lt_of_le h.lt k.size,h.b.trans (k.mono h.b.size),h.r.below k⟩
theorem Wd.drew{w wr:World}{x:Dx}(h:Wd w wr x):Wd w wr.drew x:=h.step (Below.refl _ _).drew
theorem sSize(w:World)(x:Dx)(hr:RdD w x)(hz:sumZ x.ps≤1048576):
  Calls Tryz.prog 63 #[.agg #[.int .i64 x.room,.slice x.a x.ps.length x.c]] w fun e w'=>e= .returned (.int .i64 (sumZ x.ps))∧Below w.heap.size w w':=by
 have W0:=zh (Wd.made hr 39)
 have h20:=hr.n
 clear hr
 go_enter Tryz.func63,Tryz.ntmps63
 go_wp2
 go_loopw [3,4] (fun n i wr=>∃(k:Nat) (y:Int),k≤x.ps.length∧i= .int .i64 k∧n= .int .i64 y∧0≤y∧y≤1048576∧Hid (y=sumZ (x.ps.take k))∧Hid (Wd w wr x)) (fun _ i _=>x.ps.length-(intOf i).toNat)
 case atStart=>exact⟨0,0,by omega,rfl,rfl,by omega,by omega,zh (by simp[sumZ]),W0⟩
 case round=>
  clear W0
  obtain⟨k,y,hk,rfl,rfl,y0,y1,HY,HW⟩:=hrel
  have c1:=(zu HW).c1
  have lt:=(zu HW).lt
  by_cases t:k<x.ps.length
  ·have kt:(k:Int)<x.ps.length:=by omega
   have NX:=sumZ_next t
   have LE:=sumZ_le x.ps (k+1)
   have YE:=zu HY
   obtain⟨g,ea,lg,d0,d1,d2⟩:=cells_of (zu HW).r t
   generalize (elF x.ps k).1=z0 at *
   generalize (elF x.ps k).2.1=z1 at *
   generalize (elF x.ps k).2.2=z2 at *
   have b1:(z1.size:Int)≤1048576:=by omega
   have b2:y+z1.size+z2.size≤1048576:=by omega
   have a1:wrap64 (y+z1.size)=y+z1.size:=by rw[wrap64];omega
   have a2:wrap64 (y+z1.size+z2.size)=y+z1.size+z2.size:=by rw[wrap64];omega
   have NY:=zh (show y+z1.size+z2.size=sumZ (x.ps.take (k+1)) by omega)
   clear NX LE YE
   rw[ea] at c1
   go_wp2_with fail
   go_region
   go_wp2
   go_roundw
   case rel=>exact⟨k+1,y+z1.size+z2.size,by omega,by go_num,rfl,by omega,by omega,NY,(zu HW).drew⟩
   case measure=>simp[intOf];omega
  ·have e:k=x.ps.length:=by omega
   have E:=zh (show y=sumZ x.ps by have:=zu HY;rw[e,List.take_length] at this;exact this)
   have kt:¬(k:Int)<x.ps.length:=by omega
   clear HY
   subst e
   go_wp2
   go_ret
   exact⟨congrArg (fun z=>Ending.returned (.int .i64 z)) (zu E),(zu HW).b⟩
theorem elF_get{ps:List TF}{k:Nat}(hk:k<ps.length):elF ps k=ps[k]:=by simp[List.getD,hk]
theorem findF_at{ps:List TF}{nm:Int}{k:Nat}(hk:k<ps.length)(h:∀j,j<k→(elF ps j).1≠nm)(e:(elF ps k).1=nm):findF ps nm=k:=by
 have:ps.findIdx? (fun p=>p.1==nm)=some k:=by
  rw[List.findIdx?_eq_some_iff_getElem]
  refine⟨hk,by rw[elF_get hk] at e;simp[e],fun j hj=>?_⟩
  have:=h j hj
  rw[elF_get (by omega)] at this
  simp[this]
 unfold findF
 rw[this]
theorem findF_no{ps:List TF}{nm:Int}(h:∀j,j<ps.length→(elF ps j).1≠nm):findF ps nm= -1:=by
 have:ps.findIdx? (fun p=>p.1==nm)=none:=by
  rw[List.findIdx?_eq_none_iff]
  intro q hq
  obtain⟨i,hi,rfl⟩:=List.getElem_of_mem hq
  have:=h i hi
  rw[elF_get hi] at this
  simp[this]
 unfold findF
 rw[this]
theorem findF_in{ps:List TF}{nm:Int}(h:0≤findF ps nm):∃k:Nat,findF ps nm=k∧k<ps.length∧(elF ps k).1=nm:=by
 unfold findF at *
 cases q:ps.findIdx? (fun p=>p.1==nm) with
 |none=>rw[q] at h;simp at h
 |some i=>
  rw[List.findIdx?_eq_some_iff_getElem] at q
  obtain⟨hi,e,_⟩:=q
  exact⟨i,rfl,hi,by rw[elF_get hi];simpa using e⟩
theorem sFind(w:World)(x:Dx)(nm:Int)(hr:RdD w x):
  Calls Tryz.prog 31 #[.agg #[.int .i64 x.room,.slice x.a x.ps.length x.c],.int .i64 nm] w fun e w'=>e= .returned (.int .i64 (findF x.ps nm))∧Below w.heap.size w w':=by
 have W0:=zh (Wd.made hr 39)
 have h20:=hr.n
 clear hr
 go_enter Tryz.func31,Tryz.ntmps31
 go_wp2
 go_loopw [5] (fun i wr=>∃(k:Nat),k≤x.ps.length∧i= .int .i64 k∧Hid (∀j,j<k→(elF x.ps j).1≠nm)∧Hid (Wd w wr x)) (fun i _=>x.ps.length-(intOf i).toNat)
 case atStart=>exact⟨0,by omega,rfl,zh (fun j h=>absurd h (by omega)),W0⟩
 case round=>
  clear W0
  obtain⟨k,hk,rfl,HY,HW⟩:=hrel
  have c1:=(zu HW).c1
  have lt:=(zu HW).lt
  by_cases t:k<x.ps.length
  ·have kt:(k:Int)<x.ps.length:=by omega
   have AT:=zh (fun e=>findF_at t (zu HY) e)
   have NO:=zh (fun(e:¬(elF x.ps k).1=nm) j (h:j<k+1)=>show(elF x.ps j).1≠nm from by
    by_cases q:j=k
    ·subst q;exact e
    ·exact(zu HY) j (by omega))
   obtain⟨g,ea,lg,d0,d1,d2⟩:=cells_of (zu HW).r t
   generalize (elF x.ps k).1=z0 at *
   clear HY d1 d2
   rw[ea] at c1
   by_cases q:z0=nm
   ·have A:=zh ((zu AT) q)
    clear AT NO
    subst q
    go_wp2
    go_ret
    exact⟨congrArg (fun z=>Ending.returned (.int .i64 z)) (zu A).symm,(zu HW).b⟩
   ·have N:=zh ((zu NO) q)
    clear AT NO
    go_wp2
    go_roundw
    case rel=>exact⟨k+1,by omega,by go_num,N,HW⟩
    case measure=>simp[intOf];omega
  ·have e:k=x.ps.length:=by omega
   have E:=zh (show findF x.ps nm= -1 from findF_no (by rw[←e];exact zu HY))
   clear HY
   subst e
   go_wp2
   go_ret
   exact⟨congrArg (fun z=>Ending.returned (.int .i64 z)) (zu E).symm,(zu HW).b⟩
end SDk14
namespace SOk14
open Fil14 OpensF14 DiskH14 DkH14 SDk14
theorem sIn(w:World)(x lo hi:Int):Calls Tryz.prog 34 #[.int .i64 x,.int .i64 lo,.int .i64 hi] w fun e w'=>e= .returned (.bool (decide (lo≤x∧x≤hi)))∧w'=w:=by
 by_cases h0:lo≤x
 ·by_cases h1:x≤hi
  ·rw[decide_eq_true ⟨h0,h1⟩]
   go_enter Tryz.func34,Tryz.ntmps34
   go_wp2
   go_ret
   exact⟨rfl,rfl⟩
  ·rw[decide_eq_false (fun q=>h1 q.2)]
   go_enter Tryz.func34,Tryz.ntmps34
   go_wp2
   go_ret
   exact⟨rfl,rfl⟩
 ·rw[decide_eq_false (fun q=>h0 q.1)]
  go_enter Tryz.func34,Tryz.ntmps34
  go_wp2
  go_ret
  exact⟨rfl,rfl⟩
theorem sInB(w:World)(x lo hi:Int)(b:Bool)(h:decide (lo≤x∧x≤hi)=b):Calls Tryz.prog 34 #[.int .i64 x,.int .i64 lo,.int .i64 hi] w fun e w'=>e= .returned (.bool b)∧w'=w:=by
 rw[←h]
 exact sIn w x lo hi
def okN(n:Int):Bool:=decide (0≤n∧n≤21)
theorem sName(w:World)(n:Int):Calls Tryz.prog 64 #[.int .i64 n] w fun e w'=>e= .returned (.bool (okN n))∧w'=w:=by
 have S:=zh (fun u=>sInB u n 0 21 (okN n) rfl)
 generalize okN n=b at *
 go_enter Tryz.func64,Tryz.ntmps64
 go_wp2_with fail
 refine(zu S _).mono ?_
 rintro e u ⟨rfl,rfl⟩
 go_wp2
 go_ret
 exact⟨rfl,rfl⟩
def okAt(ps:List TF)(i:Nat):Prop:=okN (elF ps i).1=true∧(0<i→(elF ps (i-1)).1<(elF ps i).1)
instance (ps:List TF) (i:Nat):Decidable (okAt ps i):=by unfold okAt;infer_instance
def OkD(room:Int)(ps:List TF):Prop:=(0≤room∧room≤60000)∧ps.length≤22∧(sumZ ps:Int)≤room∧∀i,i<ps.length→okAt ps i
instance (room:Int) (ps:List TF):Decidable (OkD room ps):=by unfold OkD;infer_instance
theorem below_of_drew{w w':World}(h:Below w.drew.heap.size w.drew w'):Below w.heap.size w w':=((Below.refl w.heap.size w).drew).trans h
abbrev oA0:Oper:={dst:=some 4,op:=Go.Op.fieldAddr 39 (Go.Operand.tmp 1) 0,type:=0,pos:= "l14_disk.go:16",after:= #[],guard:=none}
abbrev oA1:Oper:={dst:=some 5,op:=Go.Op.load 3 (Go.Operand.tmp 4),type:=3,pos:= "l14_disk.go:16",after:= #[{on:=0,ground:=Go.Ground.data}],guard:=none}
abbrev oA2:Oper:={dst:=some 6,op:=Go.Op.call {callee:=Go.Callee.value (Go.Operand.func 34),args:= #[Go.Operand.tmp 5,Go.Operand.const (Go.Value.int Go.IntKind.i64 0),Go.Operand.const (Go.Value.int Go.IntKind.i64 60000)],argTypes:= #[3,3,3]},type:=4,pos:= "l14_disk.go:16",after:= #[{on:=1,ground:=Go.Ground.data}],guard:=none}
abbrev oA3:Oper:={dst:=some 7,op:=Go.Op.unOp Go.UnOp.not 4 (Go.Operand.tmp 6),type:=4,pos:= "l14_disk.go:16",after:= #[{on:=2,ground:=Go.Ground.data}],guard:=none}
abbrev oA4:Oper:={dst:=some 8,op:=Go.Op.move (Go.Operand.tmp 7),type:=4,pos:= "l14_disk.go:16",after:= #[{on:=3,ground:=Go.Ground.data},{on:=2,ground:=Go.Ground.chain}],guard:=none}
abbrev oA5:Oper:={dst:=some 9,op:=Go.Op.fieldAddr 39 (Go.Operand.tmp 1) 1,type:=0,pos:= "l14_disk.go:16",after:= #[{on:=4,ground:=Go.Ground.guard}],guard:=some (4,false)}
abbrev oA6:Oper:={dst:=some 10,op:=Go.Op.load 37 (Go.Operand.tmp 9),type:=37,pos:= "l14_disk.go:16",after:= #[{on:=5,ground:=Go.Ground.data},{on:=4,ground:=Go.Ground.guard}],guard:=some (4,false)}
abbrev oA7:Oper:={dst:=some 11,op:=Go.Op.call {callee:=Go.Callee.builtin Go.Builtin.len,args:= #[Go.Operand.tmp 10],argTypes:= #[37]},type:=3,pos:= "l14_disk.go:16",after:= #[{on:=6,ground:=Go.Ground.data},{on:=4,ground:=Go.Ground.guard}],guard:=some (4,false)}
abbrev oA8:Oper:={dst:=some 12,op:=Go.Op.binOp Go.BinOp.gtr 3 (Go.Operand.tmp 11) (Go.Operand.const (Go.Value.int Go.IntKind.i64 22)) 3,type:=4,pos:= "l14_disk.go:16",after:= #[{on:=7,ground:=Go.Ground.data},{on:=4,ground:=Go.Ground.guard}],guard:=some (4,false)}
abbrev oA9:Oper:={dst:=some 13,op:=Go.Op.pick (Go.Operand.tmp 8) (Go.Operand.const (Go.Value.bool true)) (Go.Operand.tmp 12),type:=4,pos:= "l14_disk.go:16",after:= #[{on:=4,ground:=Go.Ground.data},{on:=8,ground:=Go.Ground.data}],guard:=none}
abbrev oA10:Oper:={dst:=some 14,op:=Go.Op.move (Go.Operand.tmp 13),type:=4,pos:= "l14_disk.go:16",after:= #[{on:=9,ground:=Go.Ground.data},{on:=4,ground:=Go.Ground.chain}],guard:=none}
abbrev oA11:Oper:={dst:=some 15,op:=Go.Op.load 39 (Go.Operand.tmp 1),type:=39,pos:= "l14_disk.go:16",after:= #[{on:=10,ground:=Go.Ground.guard}],guard:=some (10,false)}
abbrev oA12:Oper:={dst:=some 16,op:=Go.Op.call {callee:=Go.Callee.value (Go.Operand.func 63),args:= #[Go.Operand.tmp 15],argTypes:= #[39]},type:=3,pos:= "l14_disk.go:16",after:= #[{on:=11,ground:=Go.Ground.data},{on:=10,ground:=Go.Ground.chain},{on:=10,ground:=Go.Ground.guard}],guard:=some (10,false)}
abbrev oA13:Oper:={dst:=some 17,op:=Go.Op.fieldAddr 39 (Go.Operand.tmp 1) 0,type:=0,pos:= "l14_disk.go:16",after:= #[{on:=10,ground:=Go.Ground.guard}],guard:=some (10,false)}
abbrev oA14:Oper:={dst:=some 18,op:=Go.Op.load 3 (Go.Operand.tmp 17),type:=3,pos:= "l14_disk.go:16",after:= #[{on:=13,ground:=Go.Ground.data},{on:=10,ground:=Go.Ground.guard}],guard:=some (10,false)}
abbrev oA15:Oper:={dst:=some 19,op:=Go.Op.binOp Go.BinOp.gtr 3 (Go.Operand.tmp 16) (Go.Operand.tmp 18) 3,type:=4,pos:= "l14_disk.go:16",after:= #[{on:=12,ground:=Go.Ground.data},{on:=14,ground:=Go.Ground.data},{on:=10,ground:=Go.Ground.guard}],guard:=some (10,false)}
abbrev oA16:Oper:={dst:=some 20,op:=Go.Op.pick (Go.Operand.tmp 14) (Go.Operand.const (Go.Value.bool true)) (Go.Operand.tmp 19),type:=4,pos:= "l14_disk.go:16",after:= #[{on:=10,ground:=Go.Ground.data},{on:=15,ground:=Go.Ground.data}],guard:=none}
abbrev oB0:Oper:={dst:=some 28,op:=Go.Op.fieldAddr 39 (Go.Operand.tmp 1) 1,type:=0,pos:= "l14_disk.go:20",after:= #[],guard:=none}
abbrev oB1:Oper:={dst:=some 29,op:=Go.Op.load 37 (Go.Operand.tmp 28),type:=37,pos:= "l14_disk.go:20",after:= #[{on:=0,ground:=Go.Ground.data}],guard:=none}
abbrev oB2:Oper:={dst:=some 30,op:=Go.Op.move (Go.Operand.tmp 3),type:=3,pos:= "l14_disk.go:20",after:= #[],guard:=none}
abbrev oB3:Oper:={dst:=some 31,op:=Go.Op.indexAddr 37 (Go.Operand.tmp 29) (Go.Operand.tmp 30),type:=0,pos:= "l14_disk.go:20",after:= #[{on:=1,ground:=Go.Ground.data},{on:=2,ground:=Go.Ground.data}],guard:=none}
abbrev oB4:Oper:={dst:=some 32,op:=Go.Op.fieldAddr 66 (Go.Operand.tmp 31) 0,type:=0,pos:= "l14_disk.go:20",after:= #[{on:=3,ground:=Go.Ground.data}],guard:=none}
abbrev oB5:Oper:={dst:=some 33,op:=Go.Op.load 3 (Go.Operand.tmp 32),type:=3,pos:= "l14_disk.go:20",after:= #[{on:=4,ground:=Go.Ground.data}],guard:=none}
abbrev oB6:Oper:={dst:=some 34,op:=Go.Op.call {callee:=Go.Callee.value (Go.Operand.func 64),args:= #[Go.Operand.tmp 33],argTypes:= #[3]},type:=4,pos:= "l14_disk.go:20",after:= #[{on:=5,ground:=Go.Ground.data}],guard:=none}
abbrev oB7:Oper:={dst:=some 35,op:=Go.Op.unOp Go.UnOp.not 4 (Go.Operand.tmp 34),type:=4,pos:= "l14_disk.go:20",after:= #[{on:=6,ground:=Go.Ground.data}],guard:=none}
abbrev oB8:Oper:={dst:=some 36,op:=Go.Op.move (Go.Operand.tmp 35),type:=4,pos:= "l14_disk.go:20",after:= #[{on:=7,ground:=Go.Ground.data},{on:=6,ground:=Go.Ground.chain}],guard:=none}
abbrev oB9:Oper:={dst:=some 37,op:=Go.Op.move (Go.Operand.tmp 3),type:=3,pos:= "l14_disk.go:20",after:= #[{on:=8,ground:=Go.Ground.guard}],guard:=some (8,false)}
abbrev oB10:Oper:={dst:=some 38,op:=Go.Op.binOp Go.BinOp.gtr 3 (Go.Operand.tmp 37) (Go.Operand.const (Go.Value.int Go.IntKind.i64 0)) 3,type:=4,pos:= "l14_disk.go:20",after:= #[{on:=9,ground:=Go.Ground.data},{on:=8,ground:=Go.Ground.guard}],guard:=some (8,false)}
abbrev oB11:Oper:={dst:=some 39,op:=Go.Op.move (Go.Operand.tmp 38),type:=4,pos:= "l14_disk.go:20",after:= #[{on:=10,ground:=Go.Ground.data},{on:=8,ground:=Go.Ground.chain},{on:=8,ground:=Go.Ground.guard}],guard:=some (8,false)}
abbrev oB12:Oper:={dst:=some 40,op:=Go.Op.fieldAddr 39 (Go.Operand.tmp 1) 1,type:=0,pos:= "l14_disk.go:20",after:= #[{on:=11,ground:=Go.Ground.guard}],guard:=some (11,true)}
abbrev oB13:Oper:={dst:=some 41,op:=Go.Op.load 37 (Go.Operand.tmp 40),type:=37,pos:= "l14_disk.go:20",after:= #[{on:=12,ground:=Go.Ground.data},{on:=11,ground:=Go.Ground.guard}],guard:=some (11,true)}
abbrev oB14:Oper:={dst:=some 42,op:=Go.Op.move (Go.Operand.tmp 3),type:=3,pos:= "l14_disk.go:20",after:= #[{on:=11,ground:=Go.Ground.guard}],guard:=some (11,true)}
abbrev oB15:Oper:={dst:=some 43,op:=Go.Op.binOp Go.BinOp.sub 3 (Go.Operand.tmp 42) (Go.Operand.const (Go.Value.int Go.IntKind.i64 1)) 3,type:=3,pos:= "l14_disk.go:20",after:= #[{on:=14,ground:=Go.Ground.data},{on:=11,ground:=Go.Ground.guard}],guard:=some (11,true)}
abbrev oB16:Oper:={dst:=some 44,op:=Go.Op.indexAddr 37 (Go.Operand.tmp 41) (Go.Operand.tmp 43),type:=0,pos:= "l14_disk.go:20",after:= #[{on:=13,ground:=Go.Ground.data},{on:=15,ground:=Go.Ground.data},{on:=11,ground:=Go.Ground.guard}],guard:=some (11,true)}
abbrev oB17:Oper:={dst:=some 45,op:=Go.Op.fieldAddr 66 (Go.Operand.tmp 44) 0,type:=0,pos:= "l14_disk.go:20",after:= #[{on:=16,ground:=Go.Ground.data},{on:=11,ground:=Go.Ground.guard}],guard:=some (11,true)}
abbrev oB18:Oper:={dst:=some 46,op:=Go.Op.load 3 (Go.Operand.tmp 45),type:=3,pos:= "l14_disk.go:20",after:= #[{on:=17,ground:=Go.Ground.data},{on:=11,ground:=Go.Ground.guard}],guard:=some (11,true)}
abbrev oB19:Oper:={dst:=some 47,op:=Go.Op.fieldAddr 39 (Go.Operand.tmp 1) 1,type:=0,pos:= "l14_disk.go:20",after:= #[{on:=11,ground:=Go.Ground.guard}],guard:=some (11,true)}
abbrev oB20:Oper:={dst:=some 48,op:=Go.Op.load 37 (Go.Operand.tmp 47),type:=37,pos:= "l14_disk.go:20",after:= #[{on:=19,ground:=Go.Ground.data},{on:=11,ground:=Go.Ground.guard}],guard:=some (11,true)}
abbrev oB21:Oper:={dst:=some 49,op:=Go.Op.move (Go.Operand.tmp 3),type:=3,pos:= "l14_disk.go:20",after:= #[{on:=11,ground:=Go.Ground.guard}],guard:=some (11,true)}
abbrev oB22:Oper:={dst:=some 50,op:=Go.Op.indexAddr 37 (Go.Operand.tmp 48) (Go.Operand.tmp 49),type:=0,pos:= "l14_disk.go:20",after:= #[{on:=20,ground:=Go.Ground.data},{on:=21,ground:=Go.Ground.data},{on:=11,ground:=Go.Ground.guard}],guard:=some (11,true)}
abbrev oB23:Oper:={dst:=some 51,op:=Go.Op.fieldAddr 66 (Go.Operand.tmp 50) 0,type:=0,pos:= "l14_disk.go:20",after:= #[{on:=22,ground:=Go.Ground.data},{on:=11,ground:=Go.Ground.guard}],guard:=some (11,true)}
abbrev oB24:Oper:={dst:=some 52,op:=Go.Op.load 3 (Go.Operand.tmp 51),type:=3,pos:= "l14_disk.go:20",after:= #[{on:=23,ground:=Go.Ground.data},{on:=11,ground:=Go.Ground.guard}],guard:=some (11,true)}
abbrev oB25:Oper:={dst:=some 53,op:=Go.Op.binOp Go.BinOp.geq 3 (Go.Operand.tmp 46) (Go.Operand.tmp 52) 3,type:=4,pos:= "l14_disk.go:20",after:= #[{on:=18,ground:=Go.Ground.data},{on:=24,ground:=Go.Ground.data},{on:=11,ground:=Go.Ground.guard}],guard:=some (11,true)}
abbrev oB26:Oper:={dst:=some 54,op:=Go.Op.pick (Go.Operand.tmp 39) (Go.Operand.tmp 53) (Go.Operand.const (Go.Value.bool false)),type:=4,pos:= "l14_disk.go:20",after:= #[{on:=11,ground:=Go.Ground.data},{on:=25,ground:=Go.Ground.data},{on:=8,ground:=Go.Ground.guard}],guard:=some (8,false)}
abbrev oB27:Oper:={dst:=some 55,op:=Go.Op.pick (Go.Operand.tmp 36) (Go.Operand.const (Go.Value.bool true)) (Go.Operand.tmp 54),type:=4,pos:= "l14_disk.go:20",after:= #[{on:=8,ground:=Go.Ground.data},{on:=26,ground:=Go.Ground.data}],guard:=none}
theorem sDiskOk(w:World)(x:Dx)(hr:RdD w x)(hz:sumZ x.ps≤1048576):
  Calls Tryz.prog 32 #[.agg #[.int .i64 x.room,.slice x.a x.ps.length x.c]] w fun e w'=>e= .returned (.bool (decide (OkD x.room x.ps)))∧Below w.heap.size w w':=by
 have W0:=zh (Wd.made hr 39)
 have h20:=hr.n
 clear hr
 by_cases q1:0≤x.room∧x.room≤60000
 case neg=>
  rw[decide_eq_false (fun h:OkD x.room x.ps=>q1 h.1)]
  have D:=zh (fun u=>sInB u x.room 0 60000 false (decide_eq_false q1))
  clear q1
  go_enter Tryz.func32,Tryz.ntmps32
  go_wp2_with fail
  have c0:=(zu W0).c0
  have c1:=(zu W0).c1
  have lt:=(zu W0).lt
  have K4:=And.intro c0 c1
  generalize w.alloc (.cells #[.int .i64 x.room,.slice x.a x.ps.length x.c] 39)=W at *
  refine wp_region_held_drew (S:=(fun w'=>w'.cell? ⟨w.heap.size,0,none⟩=some (.int .i64 x.room)∧w'.cell? ⟨w.heap.size,1,none⟩=some (.slice x.a x.ps.length x.c))) (by kernel_rfl) K4 (fun hHeld=>?_)
  refine tk 0 oA0 (.pointer (some ⟨w.heap.size,0,none⟩)) rfl (by kernel_rfl) (fun _ _ _ h=>h) (by rfl) (fun w hSw=>?_) hHeld ?_
  ·(try dsimp only at hSw)
   unfold oA0
   go_simp
  try simp only[oA0,Act.put,zA,zB,zC]
  refine tk 1 oA1 (.int .i64 x.room) rfl (by kernel_rfl) (fun _ _ _ h=>h) (by rfl) (fun w hSw=>?_) hHeld ?_
  ·(try dsimp only at hSw)
   unfold oA1
   go_simp
  try simp only[oA1,Act.put,zA,zB,zC]
  refine wpAnyH_ready (rs:=[2]) (by kernel_rfl) (by simp) ?_
  refine AllReadyH.cons (o:=oA2) rfl (fun K hK=>?_) AllReadyH.nil
  unfold oA2
  go_simp
  go_wp2_with fail
  refine(zu D _).mono ?_
  rintro e w3 ⟨rfl,rfl⟩
  go_wp2_with fail
  refine hK.out _ _ K4 (fun hHeld=>?_)
  clear hK K
  try simp only[oA2,Act.put,zA,zB,zC]
  refine tk 3 oA3 (.bool true) rfl (by kernel_rfl) (fun _ _ _ h=>h) (by rfl) (fun w hSw=>?_) hHeld ?_
  ·(try dsimp only at hSw)
   unfold oA3
   go_simp
  try simp only[oA3,Act.put,zA,zB,zC]
  refine tk 4 oA4 (.bool true) rfl (by kernel_rfl) (fun _ _ _ h=>h) (by rfl) (fun w hSw=>?_) hHeld ?_
  ·(try dsimp only at hSw)
   unfold oA4
   go_simp
  try simp only[oA4,Act.put,zA,zB,zC]
  refine sk 5 oA5 rfl (by kernel_rfl) (fun _ _ _ h=>h) (by rfl) hHeld ?_
  try simp only[oA5,Act.put,zA,zB,zC]
  refine sk 6 oA6 rfl (by kernel_rfl) (fun _ _ _ h=>h) (by rfl) hHeld ?_
  try simp only[oA6,Act.put,zA,zB,zC]
  refine sk 7 oA7 rfl (by kernel_rfl) (fun _ _ _ h=>h) (by rfl) hHeld ?_
  try simp only[oA7,Act.put,zA,zB,zC]
  refine sk 8 oA8 rfl (by kernel_rfl) (fun _ _ _ h=>h) (by rfl) hHeld ?_
  try simp only[oA8,Act.put,zA,zB,zC]
  refine tk 9 oA9 (.bool true) rfl (by kernel_rfl) (fun _ _ _ h=>h) (by rfl) (fun w hSw=>?_) hHeld ?_
  ·(try dsimp only at hSw)
   unfold oA9
   go_simp
  try simp only[oA9,Act.put,zA,zB,zC]
  refine tk 10 oA10 (.bool true) rfl (by kernel_rfl) (fun _ _ _ h=>h) (by rfl) (fun w hSw=>?_) hHeld ?_
  ·(try dsimp only at hSw)
   unfold oA10
   go_simp
  try simp only[oA10,Act.put,zA,zB,zC]
  refine sk 11 oA11 rfl (by kernel_rfl) (fun _ _ _ h=>h) (by rfl) hHeld ?_
  try simp only[oA11,Act.put,zA,zB,zC]
  refine sk 12 oA12 rfl (by kernel_rfl) (fun _ _ _ h=>h) (by rfl) hHeld ?_
  try simp only[oA12,Act.put,zA,zB,zC]
  refine sk 13 oA13 rfl (by kernel_rfl) (fun _ _ _ h=>h) (by rfl) hHeld ?_
  try simp only[oA13,Act.put,zA,zB,zC]
  refine sk 14 oA14 rfl (by kernel_rfl) (fun _ _ _ h=>h) (by rfl) hHeld ?_
  try simp only[oA14,Act.put,zA,zB,zC]
  refine sk 15 oA15 rfl (by kernel_rfl) (fun _ _ _ h=>h) (by rfl) hHeld ?_
  try simp only[oA15,Act.put,zA,zB,zC]
  refine tk 16 oA16 (.bool true) rfl (by kernel_rfl) (fun _ _ _ h=>h) (by rfl) (fun w hSw=>?_) hHeld ?_
  ·(try dsimp only at hSw)
   unfold oA16
   go_simp
  try simp only[oA16,Act.put,zA,zB,zC]
  refine wpAnyH_done (by kernel_rfl) ?_ _
  go_wp2
  go_ret
  exact⟨rfl,(zu W0).b.drew⟩
 have D:=zh (fun u=>sInB u x.room 0 60000 true (decide_eq_true q1))
 by_cases q2:x.ps.length≤22
 case neg=>
  rw[decide_eq_false (fun h:OkD x.room x.ps=>q2 h.2.1)]
  have d2:(x.ps.length:Int)>22:=by omega
  clear q1
  go_enter Tryz.func32,Tryz.ntmps32
  go_wp2_with fail
  have c0:=(zu W0).c0
  have c1:=(zu W0).c1
  have lt:=(zu W0).lt
  have K4:=And.intro c0 c1
  generalize w.alloc (.cells #[.int .i64 x.room,.slice x.a x.ps.length x.c] 39)=W at *
  refine wp_region_held_drew (S:=(fun w'=>w'.cell? ⟨w.heap.size,0,none⟩=some (.int .i64 x.room)∧w'.cell? ⟨w.heap.size,1,none⟩=some (.slice x.a x.ps.length x.c))) (by kernel_rfl) K4 (fun hHeld=>?_)
  refine tk 0 oA0 (.pointer (some ⟨w.heap.size,0,none⟩)) rfl (by kernel_rfl) (fun _ _ _ h=>h) (by rfl) (fun w hSw=>?_) hHeld ?_
  ·(try dsimp only at hSw)
   unfold oA0
   go_simp
  try simp only[oA0,Act.put,zA,zB,zC]
  refine tk 1 oA1 (.int .i64 x.room) rfl (by kernel_rfl) (fun _ _ _ h=>h) (by rfl) (fun w hSw=>?_) hHeld ?_
  ·(try dsimp only at hSw)
   unfold oA1
   go_simp
  try simp only[oA1,Act.put,zA,zB,zC]
  refine wpAnyH_ready (rs:=[2]) (by kernel_rfl) (by simp) ?_
  refine AllReadyH.cons (o:=oA2) rfl (fun K hK=>?_) AllReadyH.nil
  unfold oA2
  go_simp
  go_wp2_with fail
  refine(zu D _).mono ?_
  rintro e w3 ⟨rfl,rfl⟩
  go_wp2_with fail
  refine hK.out _ _ K4 (fun hHeld=>?_)
  clear hK K
  try simp only[oA2,Act.put,zA,zB,zC]
  refine tk 3 oA3 (.bool false) rfl (by kernel_rfl) (fun _ _ _ h=>h) (by rfl) (fun w hSw=>?_) hHeld ?_
  ·(try dsimp only at hSw)
   unfold oA3
   go_simp
  try simp only[oA3,Act.put,zA,zB,zC]
  refine tk 4 oA4 (.bool false) rfl (by kernel_rfl) (fun _ _ _ h=>h) (by rfl) (fun w hSw=>?_) hHeld ?_
  ·(try dsimp only at hSw)
   unfold oA4
   go_simp
  try simp only[oA4,Act.put,zA,zB,zC]
  refine tk 5 oA5 (.pointer (some ⟨w.heap.size,1,none⟩)) rfl (by kernel_rfl) (fun _ _ _ h=>h) (by rfl) (fun w hSw=>?_) hHeld ?_
  ·(try dsimp only at hSw)
   unfold oA5
   go_simp
  try simp only[oA5,Act.put,zA,zB,zC]
  refine tk 6 oA6 (.slice x.a x.ps.length x.c) rfl (by kernel_rfl) (fun _ _ _ h=>h) (by rfl) (fun w hSw=>?_) hHeld ?_
  ·(try dsimp only at hSw)
   unfold oA6
   go_simp
  try simp only[oA6,Act.put,zA,zB,zC]
  refine wpAnyH_ready (rs:=[7]) (by kernel_rfl) (by simp) ?_
  refine AllReadyH.cons (o:=oA7) rfl (fun K hK=>?_) AllReadyH.nil
  unfold oA7
  go_simp
  refine hK.out _ _ K4 (fun hHeld=>?_)
  clear hK K
  try simp only[oA7,Act.put,zA,zB,zC]
  refine tk 8 oA8 (.bool true) rfl (by kernel_rfl) (fun _ _ _ h=>h) (by rfl) (fun w hSw=>?_) hHeld ?_
  ·(try dsimp only at hSw)
   unfold oA8
   go_simp
  try simp only[oA8,Act.put,zA,zB,zC]
  refine tk 9 oA9 (.bool true) rfl (by kernel_rfl) (fun _ _ _ h=>h) (by rfl) (fun w hSw=>?_) hHeld ?_
  ·(try dsimp only at hSw)
   unfold oA9
   go_simp
  try simp only[oA9,Act.put,zA,zB,zC]
  refine tk 10 oA10 (.bool true) rfl (by kernel_rfl) (fun _ _ _ h=>h) (by rfl) (fun w hSw=>?_) hHeld ?_
  ·(try dsimp only at hSw)
   unfold oA10
   go_simp
  try simp only[oA10,Act.put,zA,zB,zC]
  refine sk 11 oA11 rfl (by kernel_rfl) (fun _ _ _ h=>h) (by rfl) hHeld ?_
  try simp only[oA11,Act.put,zA,zB,zC]
  refine sk 12 oA12 rfl (by kernel_rfl) (fun _ _ _ h=>h) (by rfl) hHeld ?_
  try simp only[oA12,Act.put,zA,zB,zC]
  refine sk 13 oA13 rfl (by kernel_rfl) (fun _ _ _ h=>h) (by rfl) hHeld ?_
  try simp only[oA13,Act.put,zA,zB,zC]
  refine sk 14 oA14 rfl (by kernel_rfl) (fun _ _ _ h=>h) (by rfl) hHeld ?_
  try simp only[oA14,Act.put,zA,zB,zC]
  refine sk 15 oA15 rfl (by kernel_rfl) (fun _ _ _ h=>h) (by rfl) hHeld ?_
  try simp only[oA15,Act.put,zA,zB,zC]
  refine tk 16 oA16 (.bool true) rfl (by kernel_rfl) (fun _ _ _ h=>h) (by rfl) (fun w hSw=>?_) hHeld ?_
  ·(try dsimp only at hSw)
   unfold oA16
   go_simp
  try simp only[oA16,Act.put,zA,zB,zC]
  refine wpAnyH_done (by kernel_rfl) ?_ _
  go_wp2
  go_ret
  exact⟨rfl,(zu W0).b.drew⟩
 have d2:¬(x.ps.length:Int)>22:=by omega
 have Q:=zh (And.intro q1 q2)
 by_cases q3:(sumZ x.ps:Int)≤x.room
 case neg=>
  rw[decide_eq_false (fun h:OkD x.room x.ps=>q3 h.2.2.1)]
  have d3:(sumZ x.ps:Int)>x.room:=by omega
  clear q1
  go_enter Tryz.func32,Tryz.ntmps32
  go_wp2_with fail
  have c0:=(zu W0).c0
  have c1:=(zu W0).c1
  have lt:=(zu W0).lt
  have K4:=And.intro c0 c1
  generalize w.alloc (.cells #[.int .i64 x.room,.slice x.a x.ps.length x.c] 39)=W at *
  refine wp_region_held_drew (S:=(fun w'=>w'.cell? ⟨w.heap.size,0,none⟩=some (.int .i64 x.room)∧w'.cell? ⟨w.heap.size,1,none⟩=some (.slice x.a x.ps.length x.c))) (by kernel_rfl) K4 (fun hHeld=>?_)
  refine tk 0 oA0 (.pointer (some ⟨w.heap.size,0,none⟩)) rfl (by kernel_rfl) (fun _ _ _ h=>h) (by rfl) (fun w hSw=>?_) hHeld ?_
  ·(try dsimp only at hSw)
   unfold oA0
   go_simp
  try simp only[oA0,Act.put,zA,zB,zC]
  refine tk 1 oA1 (.int .i64 x.room) rfl (by kernel_rfl) (fun _ _ _ h=>h) (by rfl) (fun w hSw=>?_) hHeld ?_
  ·(try dsimp only at hSw)
   unfold oA1
   go_simp
  try simp only[oA1,Act.put,zA,zB,zC]
  refine wpAnyH_ready (rs:=[2]) (by kernel_rfl) (by simp) ?_
  refine AllReadyH.cons (o:=oA2) rfl (fun K hK=>?_) AllReadyH.nil
  unfold oA2
  go_simp
  go_wp2_with fail
  refine(zu D _).mono ?_
  rintro e w3 ⟨rfl,rfl⟩
  go_wp2_with fail
  refine hK.out _ _ K4 (fun hHeld=>?_)
  clear hK K
  try simp only[oA2,Act.put,zA,zB,zC]
  refine tk 3 oA3 (.bool false) rfl (by kernel_rfl) (fun _ _ _ h=>h) (by rfl) (fun w hSw=>?_) hHeld ?_
  ·(try dsimp only at hSw)
   unfold oA3
   go_simp
  try simp only[oA3,Act.put,zA,zB,zC]
  refine tk 4 oA4 (.bool false) rfl (by kernel_rfl) (fun _ _ _ h=>h) (by rfl) (fun w hSw=>?_) hHeld ?_
  ·(try dsimp only at hSw)
   unfold oA4
   go_simp
  try simp only[oA4,Act.put,zA,zB,zC]
  refine tk 5 oA5 (.pointer (some ⟨w.heap.size,1,none⟩)) rfl (by kernel_rfl) (fun _ _ _ h=>h) (by rfl) (fun w hSw=>?_) hHeld ?_
  ·(try dsimp only at hSw)
   unfold oA5
   go_simp
  try simp only[oA5,Act.put,zA,zB,zC]
  refine tk 6 oA6 (.slice x.a x.ps.length x.c) rfl (by kernel_rfl) (fun _ _ _ h=>h) (by rfl) (fun w hSw=>?_) hHeld ?_
  ·(try dsimp only at hSw)
   unfold oA6
   go_simp
  try simp only[oA6,Act.put,zA,zB,zC]
  refine wpAnyH_ready (rs:=[7]) (by kernel_rfl) (by simp) ?_
  refine AllReadyH.cons (o:=oA7) rfl (fun K hK=>?_) AllReadyH.nil
  unfold oA7
  go_simp
  refine hK.out _ _ K4 (fun hHeld=>?_)
  clear hK K
  try simp only[oA7,Act.put,zA,zB,zC]
  refine tk 8 oA8 (.bool false) rfl (by kernel_rfl) (fun _ _ _ h=>h) (by rfl) (fun w hSw=>?_) hHeld ?_
  ·(try dsimp only at hSw)
   unfold oA8
   go_simp
  try simp only[oA8,Act.put,zA,zB,zC]
  refine tk 9 oA9 (.bool false) rfl (by kernel_rfl) (fun _ _ _ h=>h) (by rfl) (fun w hSw=>?_) hHeld ?_
  ·(try dsimp only at hSw)
   unfold oA9
   go_simp
  try simp only[oA9,Act.put,zA,zB,zC]
  refine tk 10 oA10 (.bool false) rfl (by kernel_rfl) (fun _ _ _ h=>h) (by rfl) (fun w hSw=>?_) hHeld ?_
  ·(try dsimp only at hSw)
   unfold oA10
   go_simp
  try simp only[oA10,Act.put,zA,zB,zC]
  refine tk 11 oA11 (.agg #[.int .i64 x.room,.slice x.a x.ps.length x.c]) rfl (by kernel_rfl) (fun _ _ _ h=>h) (by rfl) (fun w hSw=>?_) hHeld ?_
  ·(try dsimp only at hSw)
   unfold oA11
   go_simp
  try simp only[oA11,Act.put,zA,zB,zC]
  refine tk 13 oA13 (.pointer (some ⟨w.heap.size,0,none⟩)) rfl (by kernel_rfl) (fun _ _ _ h=>h) (by rfl) (fun w hSw=>?_) hHeld ?_
  ·(try dsimp only at hSw)
   unfold oA13
   go_simp
  try simp only[oA13,Act.put,zA,zB,zC]
  refine tk 14 oA14 (.int .i64 x.room) rfl (by kernel_rfl) (fun _ _ _ h=>h) (by rfl) (fun w hSw=>?_) hHeld ?_
  ·(try dsimp only at hSw)
   unfold oA14
   go_simp
  try simp only[oA14,Act.put,zA,zB,zC]
  refine wpAnyH_ready (rs:=[12]) (by kernel_rfl) (by simp) ?_
  refine AllReadyH.cons (o:=oA12) rfl (fun K hK=>?_) AllReadyH.nil
  unfold oA12
  go_simp
  go_wp2_with fail
  refine(sSize _ x (zu W0).drew.r hz).mono ?_
  rintro e w4 ⟨rfl,bb⟩
  have bW:=zh (below_of_drew bb)
  have W4:=zh ((zu W0).step (zu bW))
  have K5:=And.intro (zu W4).c0 (zu W4).c1
  clear bb
  go_wp2_with fail
  refine hK.out _ _ K5 (fun hHeld=>?_)
  clear hK K
  try simp only[oA12,Act.put,zA,zB,zC]
  refine tk 15 oA15 (.bool true) rfl (by kernel_rfl) (fun _ _ _ h=>h) (by rfl) (fun w hSw=>?_) hHeld ?_
  ·(try dsimp only at hSw)
   unfold oA15
   go_simp
  try simp only[oA15,Act.put,zA,zB,zC]
  refine tk 16 oA16 (.bool true) rfl (by kernel_rfl) (fun _ _ _ h=>h) (by rfl) (fun w hSw=>?_) hHeld ?_
  ·(try dsimp only at hSw)
   unfold oA16
   go_simp
  try simp only[oA16,Act.put,zA,zB,zC]
  refine wpAnyH_done (by kernel_rfl) ?_ _
  go_wp2
  go_ret
  exact⟨rfl,(zu W4).b⟩
 have d3:¬(sumZ x.ps:Int)>x.room:=by omega
 go_enter Tryz.func32,Tryz.ntmps32
 go_wp2_with fail
 have c0:=(zu W0).c0
 have c1:=(zu W0).c1
 have lt:=(zu W0).lt
 have K4:=And.intro c0 c1
 generalize w.alloc (.cells #[.int .i64 x.room,.slice x.a x.ps.length x.c] 39)=W at *
 refine wp_region_held_drew (S:=(fun w'=>w'.cell? ⟨w.heap.size,0,none⟩=some (.int .i64 x.room)∧w'.cell? ⟨w.heap.size,1,none⟩=some (.slice x.a x.ps.length x.c))) (by kernel_rfl) K4 (fun hHeld=>?_)
 refine tk 0 oA0 (.pointer (some ⟨w.heap.size,0,none⟩)) rfl (by kernel_rfl) (fun _ _ _ h=>h) (by rfl) (fun w hSw=>?_) hHeld ?_
 ·(try dsimp only at hSw)
  unfold oA0
  go_simp
 try simp only[oA0,Act.put,zA,zB,zC]
 refine tk 1 oA1 (.int .i64 x.room) rfl (by kernel_rfl) (fun _ _ _ h=>h) (by rfl) (fun w hSw=>?_) hHeld ?_
 ·(try dsimp only at hSw)
  unfold oA1
  go_simp
 try simp only[oA1,Act.put,zA,zB,zC]
 refine wpAnyH_ready (rs:=[2]) (by kernel_rfl) (by simp) ?_
 refine AllReadyH.cons (o:=oA2) rfl (fun K hK=>?_) AllReadyH.nil
 unfold oA2
 go_simp
 go_wp2_with fail
 refine(zu D _).mono ?_
 rintro e w3 ⟨rfl,rfl⟩
 go_wp2_with fail
 refine hK.out _ _ K4 (fun hHeld=>?_)
 clear hK K
 try simp only[oA2,Act.put,zA,zB,zC]
 refine tk 3 oA3 (.bool false) rfl (by kernel_rfl) (fun _ _ _ h=>h) (by rfl) (fun w hSw=>?_) hHeld ?_
 ·(try dsimp only at hSw)
  unfold oA3
  go_simp
 try simp only[oA3,Act.put,zA,zB,zC]
 refine tk 4 oA4 (.bool false) rfl (by kernel_rfl) (fun _ _ _ h=>h) (by rfl) (fun w hSw=>?_) hHeld ?_
 ·(try dsimp only at hSw)
  unfold oA4
  go_simp
 try simp only[oA4,Act.put,zA,zB,zC]
 refine tk 5 oA5 (.pointer (some ⟨w.heap.size,1,none⟩)) rfl (by kernel_rfl) (fun _ _ _ h=>h) (by rfl) (fun w hSw=>?_) hHeld ?_
 ·(try dsimp only at hSw)
  unfold oA5
  go_simp
 try simp only[oA5,Act.put,zA,zB,zC]
 refine tk 6 oA6 (.slice x.a x.ps.length x.c) rfl (by kernel_rfl) (fun _ _ _ h=>h) (by rfl) (fun w hSw=>?_) hHeld ?_
 ·(try dsimp only at hSw)
  unfold oA6
  go_simp
 try simp only[oA6,Act.put,zA,zB,zC]
 refine wpAnyH_ready (rs:=[7]) (by kernel_rfl) (by simp) ?_
 refine AllReadyH.cons (o:=oA7) rfl (fun K hK=>?_) AllReadyH.nil
 unfold oA7
 go_simp
 refine hK.out _ _ K4 (fun hHeld=>?_)
 clear hK K
 try simp only[oA7,Act.put,zA,zB,zC]
 refine tk 8 oA8 (.bool false) rfl (by kernel_rfl) (fun _ _ _ h=>h) (by rfl) (fun w hSw=>?_) hHeld ?_
 ·(try dsimp only at hSw)
  unfold oA8
  go_simp
 try simp only[oA8,Act.put,zA,zB,zC]
 refine tk 9 oA9 (.bool false) rfl (by kernel_rfl) (fun _ _ _ h=>h) (by rfl) (fun w hSw=>?_) hHeld ?_
 ·(try dsimp only at hSw)
  unfold oA9
  go_simp
 try simp only[oA9,Act.put,zA,zB,zC]
 refine tk 10 oA10 (.bool false) rfl (by kernel_rfl) (fun _ _ _ h=>h) (by rfl) (fun w hSw=>?_) hHeld ?_
 ·(try dsimp only at hSw)
  unfold oA10
  go_simp
 try simp only[oA10,Act.put,zA,zB,zC]
 refine tk 11 oA11 (.agg #[.int .i64 x.room,.slice x.a x.ps.length x.c]) rfl (by kernel_rfl) (fun _ _ _ h=>h) (by rfl) (fun w hSw=>?_) hHeld ?_
 ·(try dsimp only at hSw)
  unfold oA11
  go_simp
 try simp only[oA11,Act.put,zA,zB,zC]
 refine tk 13 oA13 (.pointer (some ⟨w.heap.size,0,none⟩)) rfl (by kernel_rfl) (fun _ _ _ h=>h) (by rfl) (fun w hSw=>?_) hHeld ?_
 ·(try dsimp only at hSw)
  unfold oA13
  go_simp
 try simp only[oA13,Act.put,zA,zB,zC]
 refine tk 14 oA14 (.int .i64 x.room) rfl (by kernel_rfl) (fun _ _ _ h=>h) (by rfl) (fun w hSw=>?_) hHeld ?_
 ·(try dsimp only at hSw)
  unfold oA14
  go_simp
 try simp only[oA14,Act.put,zA,zB,zC]
 refine wpAnyH_ready (rs:=[12]) (by kernel_rfl) (by simp) ?_
 refine AllReadyH.cons (o:=oA12) rfl (fun K hK=>?_) AllReadyH.nil
 unfold oA12
 go_simp
 go_wp2_with fail
 refine(sSize _ x (zu W0).drew.r hz).mono ?_
 rintro e w4 ⟨rfl,bb⟩
 have bW:=zh (below_of_drew bb)
 have W4:=zh ((zu W0).step (zu bW))
 have K5:=And.intro (zu W4).c0 (zu W4).c1
 clear bb
 go_wp2_with fail
 refine hK.out _ _ K5 (fun hHeld=>?_)
 clear hK K
 try simp only[oA12,Act.put,zA,zB,zC]
 refine tk 15 oA15 (.bool false) rfl (by kernel_rfl) (fun _ _ _ h=>h) (by rfl) (fun w hSw=>?_) hHeld ?_
 ·(try dsimp only at hSw)
  unfold oA15
  go_simp
 try simp only[oA15,Act.put,zA,zB,zC]
 refine tk 16 oA16 (.bool false) rfl (by kernel_rfl) (fun _ _ _ h=>h) (by rfl) (fun w hSw=>?_) hHeld ?_
 ·(try dsimp only at hSw)
  unfold oA16
  go_simp
 try simp only[oA16,Act.put,zA,zB,zC]
 refine wpAnyH_done (by kernel_rfl) ?_ _
 clear W0 K4 K5 c0 c1 lt D bW
 have OK:=zh (fun h:∀i,i<x.ps.length→okAt x.ps i=>decide_eq_true (show OkD x.room x.ps from⟨(zu Q).1,(zu Q).2,q3,h⟩))
 clear q1
 go_wp2_with fail
 go_loopw [3] (fun i wr=>∃(k:Nat),k≤x.ps.length∧i= .int .i64 k∧Hid (∀j,j<k→okAt x.ps j)∧Hid (Wd w wr x)) (fun i _=>x.ps.length-(intOf i).toNat)
 case atStart=>exact⟨0,by omega,rfl,zh (fun j h=>absurd h (by omega)),W4⟩
 case round=>
  clear W4 hHeld
  obtain⟨k,hk,rfl,HY,HW⟩:=hrel
  have c1:=(zu HW).c1
  have lt:=(zu HW).lt
  by_cases t:k<x.ps.length
  ·have kt:(k:Int)<x.ps.length:=by omega
   obtain⟨g,ea,lg,d0,_,_⟩:=cells_of (zu HW).r t
   have NX:=zh (fun(e:okAt x.ps k) j (h:j<k+1)=>show okAt x.ps j from by
    by_cases q:j=k
    ·subst q;exact e
    ·exact(zu HY) j (by omega))
   have BAD:=zh (fun e:¬okAt x.ps k=>decide_eq_false (fun h:OkD x.room x.ps=>e (h.2.2.2 k t)))
   have NM0:=zh (fun u=>sName u (elF x.ps k).1)
   have DF:=zh (show okAt x.ps k↔okN (elF x.ps k).1=true∧(0<k→(elF x.ps (k-1)).1<(elF x.ps k).1) from Iff.rfl)
   rw[ea] at c1
   have RD:=zh (fun(h:0<k)=>(((zu HW).r.r g ea).2 (k-1) (by omega)).1)
   have EY:Hid (∃y,y=(elF x.ps (k-1)).1):=⟨_,rfl⟩
   obtain⟨y,ey⟩:=zu EY
   rw[←ey] at DF RD
   generalize okAt x.ps k=OA at *
   generalize (elF x.ps k).1=z at *
   clear ey EY HY ea
   cases qb:okN z
   ·have F:=zh ((zu BAD) (fun h=>by have:=((zu DF).1 h).1;rw[qb] at this;exact absurd this (by simp)))
    have NM:=zh (fun u=>by have:=(zu NM0) u;rw[qb] at this;exact this)
    have K6:=And.intro c1 d0
    clear BAD NX DF RD NM0 OK
    go_wp2_with fail
    refine wp_region_held_drew (S:=(fun w'=>w'.cell? ⟨w.heap.size,1,none⟩=some (.slice (some ⟨g,0,none⟩) x.ps.length x.c)∧w'.cell? ⟨g,k*3,none⟩=some (.int .i64 z))) (by kernel_rfl) K6 (fun hHeld=>?_)
    refine tk 0 oB0 (.pointer (some ⟨w.heap.size,1,none⟩)) rfl (by kernel_rfl) (fun _ _ _ h=>h) (by rfl) (fun w hSw=>?_) hHeld ?_
    ·(try dsimp only at hSw)
     unfold oB0
     go_simp
    try simp only[oB0,Act.put,zA,zB,zC]
    refine tk 1 oB1 (.slice (some ⟨g,0,none⟩) x.ps.length x.c) rfl (by kernel_rfl) (fun _ _ _ h=>h) (by rfl) (fun w hSw=>?_) hHeld ?_
    ·(try dsimp only at hSw)
     unfold oB1
     go_simp
    try simp only[oB1,Act.put,zA,zB,zC]
    refine tk 2 oB2 (.int .i64 k) rfl (by kernel_rfl) (fun _ _ _ h=>h) (by rfl) (fun w hSw=>?_) hHeld ?_
    ·(try dsimp only at hSw)
     unfold oB2
     go_simp
    try simp only[oB2,Act.put,zA,zB,zC]
    refine tk 3 oB3 (.pointer (some ⟨g,k*3,none⟩)) rfl (by kernel_rfl) (fun _ _ _ h=>h) (by rfl) (fun w hSw=>?_) hHeld ?_
    ·(try dsimp only at hSw)
     unfold oB3
     go_simp
    try simp only[oB3,Act.put,zA,zB,zC]
    refine tk 4 oB4 (.pointer (some ⟨g,k*3,none⟩)) rfl (by kernel_rfl) (fun _ _ _ h=>h) (by rfl) (fun w hSw=>?_) hHeld ?_
    ·(try dsimp only at hSw)
     unfold oB4
     go_simp
    try simp only[oB4,Act.put,zA,zB,zC]
    refine tk 5 oB5 (.int .i64 z) rfl (by kernel_rfl) (fun _ _ _ h=>h) (by rfl) (fun w hSw=>?_) hHeld ?_
    ·(try dsimp only at hSw)
     unfold oB5
     go_simp
    try simp only[oB5,Act.put,zA,zB,zC]
    refine wpAnyH_ready (rs:=[6]) (by kernel_rfl) (by simp) ?_
    refine AllReadyH.cons (o:=oB6) rfl (fun K hK=>?_) AllReadyH.nil
    unfold oB6
    go_simp
    go_wp2_with fail
    refine(zu NM _).mono ?_
    rintro e w5 ⟨rfl,rfl⟩
    go_wp2_with fail
    refine hK.out _ _ K6 (fun hHeld=>?_)
    clear hK K
    try simp only[oB6,Act.put,zA,zB,zC]
    refine tk 7 oB7 (.bool true) rfl (by kernel_rfl) (fun _ _ _ h=>h) (by rfl) (fun w hSw=>?_) hHeld ?_
    ·(try dsimp only at hSw)
     unfold oB7
     go_simp
    try simp only[oB7,Act.put,zA,zB,zC]
    refine tk 8 oB8 (.bool true) rfl (by kernel_rfl) (fun _ _ _ h=>h) (by rfl) (fun w hSw=>?_) hHeld ?_
    ·(try dsimp only at hSw)
     unfold oB8
     go_simp
    try simp only[oB8,Act.put,zA,zB,zC]
    refine sk 9 oB9 rfl (by kernel_rfl) (fun _ _ _ h=>h) (by rfl) hHeld ?_
    try simp only[oB9,Act.put,zA,zB,zC]
    refine sk 10 oB10 rfl (by kernel_rfl) (fun _ _ _ h=>h) (by rfl) hHeld ?_
    try simp only[oB10,Act.put,zA,zB,zC]
    refine sk 11 oB11 rfl (by kernel_rfl) (fun _ _ _ h=>h) (by rfl) hHeld ?_
    try simp only[oB11,Act.put,zA,zB,zC]
    refine sk 12 oB12 rfl (by kernel_rfl) (fun _ _ _ h=>h) (by rfl) hHeld ?_
    try simp only[oB12,Act.put,zA,zB,zC]
    refine sk 13 oB13 rfl (by kernel_rfl) (fun _ _ _ h=>h) (by rfl) hHeld ?_
    try simp only[oB13,Act.put,zA,zB,zC]
    refine sk 14 oB14 rfl (by kernel_rfl) (fun _ _ _ h=>h) (by rfl) hHeld ?_
    try simp only[oB14,Act.put,zA,zB,zC]
    refine sk 15 oB15 rfl (by kernel_rfl) (fun _ _ _ h=>h) (by rfl) hHeld ?_
    try simp only[oB15,Act.put,zA,zB,zC]
    refine sk 16 oB16 rfl (by kernel_rfl) (fun _ _ _ h=>h) (by rfl) hHeld ?_
    try simp only[oB16,Act.put,zA,zB,zC]
    refine sk 17 oB17 rfl (by kernel_rfl) (fun _ _ _ h=>h) (by rfl) hHeld ?_
    try simp only[oB17,Act.put,zA,zB,zC]
    refine sk 18 oB18 rfl (by kernel_rfl) (fun _ _ _ h=>h) (by rfl) hHeld ?_
    try simp only[oB18,Act.put,zA,zB,zC]
    refine sk 19 oB19 rfl (by kernel_rfl) (fun _ _ _ h=>h) (by rfl) hHeld ?_
    try simp only[oB19,Act.put,zA,zB,zC]
    refine sk 20 oB20 rfl (by kernel_rfl) (fun _ _ _ h=>h) (by rfl) hHeld ?_
    try simp only[oB20,Act.put,zA,zB,zC]
    refine sk 21 oB21 rfl (by kernel_rfl) (fun _ _ _ h=>h) (by rfl) hHeld ?_
    try simp only[oB21,Act.put,zA,zB,zC]
    refine sk 22 oB22 rfl (by kernel_rfl) (fun _ _ _ h=>h) (by rfl) hHeld ?_
    try simp only[oB22,Act.put,zA,zB,zC]
    refine sk 23 oB23 rfl (by kernel_rfl) (fun _ _ _ h=>h) (by rfl) hHeld ?_
    try simp only[oB23,Act.put,zA,zB,zC]
    refine sk 24 oB24 rfl (by kernel_rfl) (fun _ _ _ h=>h) (by rfl) hHeld ?_
    try simp only[oB24,Act.put,zA,zB,zC]
    refine sk 25 oB25 rfl (by kernel_rfl) (fun _ _ _ h=>h) (by rfl) hHeld ?_
    try simp only[oB25,Act.put,zA,zB,zC]
    refine sk 26 oB26 rfl (by kernel_rfl) (fun _ _ _ h=>h) (by rfl) hHeld ?_
    try simp only[oB26,Act.put,zA,zB,zC]
    refine tk 27 oB27 (.bool true) rfl (by kernel_rfl) (fun _ _ _ h=>h) (by rfl) (fun w hSw=>?_) hHeld ?_
    ·(try dsimp only at hSw)
     unfold oB27
     go_simp
    try simp only[oB27,Act.put,zA,zB,zC]
    refine wpAnyH_done (by kernel_rfl) ?_ _
    go_wp2
    go_ret
    exact⟨by rw[zu F];rfl,(zu HW).b.drew⟩
   have NM:=zh (fun u=>by have:=(zu NM0) u;rw[qb] at this;exact this)
   by_cases k0:0<k
   ·by_cases qy:y<z
    ·have GN:=zh ((zu NX) ((zu DF).2 ⟨qb,fun _=>qy⟩))
     have p0:=(zu RD) k0
     obtain⟨p,hp⟩:∃p,p=k-1:=⟨_,rfl⟩
     rw[←hp] at p0
     have a1:IntKind.i64.wrap ((k:Int) -1)=p:=by simp[IntKind.wrap,go_sem];omega
     have k1:(k:Int)>0:=by omega
     have pl:(p:Int)<x.ps.length:=by omega
     have qn:¬y≥z:=by omega
     have K6:=And.intro c1 (And.intro d0 p0)
     clear BAD NX DF RD NM0 OK hp qy
     go_wp2_with fail
     refine wp_region_held_drew (S:=(fun w'=>w'.cell? ⟨w.heap.size,1,none⟩=some (.slice (some ⟨g,0,none⟩) x.ps.length x.c)∧w'.cell? ⟨g,k*3,none⟩=some (.int .i64 z)∧w'.cell? ⟨g,p*3,none⟩=some (.int .i64 y))) (by kernel_rfl) K6 (fun hHeld=>?_)
     refine tk 0 oB0 (.pointer (some ⟨w.heap.size,1,none⟩)) rfl (by kernel_rfl) (fun _ _ _ h=>h) (by rfl) (fun w hSw=>?_) hHeld ?_
     ·(try dsimp only at hSw)
      unfold oB0
      go_simp
     try simp only[oB0,Act.put,zA,zB,zC]
     refine tk 1 oB1 (.slice (some ⟨g,0,none⟩) x.ps.length x.c) rfl (by kernel_rfl) (fun _ _ _ h=>h) (by rfl) (fun w hSw=>?_) hHeld ?_
     ·(try dsimp only at hSw)
      unfold oB1
      go_simp
     try simp only[oB1,Act.put,zA,zB,zC]
     refine tk 2 oB2 (.int .i64 k) rfl (by kernel_rfl) (fun _ _ _ h=>h) (by rfl) (fun w hSw=>?_) hHeld ?_
     ·(try dsimp only at hSw)
      unfold oB2
      go_simp
     try simp only[oB2,Act.put,zA,zB,zC]
     refine tk 3 oB3 (.pointer (some ⟨g,k*3,none⟩)) rfl (by kernel_rfl) (fun _ _ _ h=>h) (by rfl) (fun w hSw=>?_) hHeld ?_
     ·(try dsimp only at hSw)
      unfold oB3
      go_simp
     try simp only[oB3,Act.put,zA,zB,zC]
     refine tk 4 oB4 (.pointer (some ⟨g,k*3,none⟩)) rfl (by kernel_rfl) (fun _ _ _ h=>h) (by rfl) (fun w hSw=>?_) hHeld ?_
     ·(try dsimp only at hSw)
      unfold oB4
      go_simp
     try simp only[oB4,Act.put,zA,zB,zC]
     refine tk 5 oB5 (.int .i64 z) rfl (by kernel_rfl) (fun _ _ _ h=>h) (by rfl) (fun w hSw=>?_) hHeld ?_
     ·(try dsimp only at hSw)
      unfold oB5
      go_simp
     try simp only[oB5,Act.put,zA,zB,zC]
     refine wpAnyH_ready (rs:=[6]) (by kernel_rfl) (by simp) ?_
     refine AllReadyH.cons (o:=oB6) rfl (fun K hK=>?_) AllReadyH.nil
     unfold oB6
     go_simp
     go_wp2_with fail
     refine(zu NM _).mono ?_
     rintro e w5 ⟨rfl,rfl⟩
     go_wp2_with fail
     refine hK.out _ _ K6 (fun hHeld=>?_)
     clear hK K
     try simp only[oB6,Act.put,zA,zB,zC]
     refine tk 7 oB7 (.bool false) rfl (by kernel_rfl) (fun _ _ _ h=>h) (by rfl) (fun w hSw=>?_) hHeld ?_
     ·(try dsimp only at hSw)
      unfold oB7
      go_simp
     try simp only[oB7,Act.put,zA,zB,zC]
     refine tk 8 oB8 (.bool false) rfl (by kernel_rfl) (fun _ _ _ h=>h) (by rfl) (fun w hSw=>?_) hHeld ?_
     ·(try dsimp only at hSw)
      unfold oB8
      go_simp
     try simp only[oB8,Act.put,zA,zB,zC]
     refine tk 9 oB9 (.int .i64 k) rfl (by kernel_rfl) (fun _ _ _ h=>h) (by rfl) (fun w hSw=>?_) hHeld ?_
     ·(try dsimp only at hSw)
      unfold oB9
      go_simp
     try simp only[oB9,Act.put,zA,zB,zC]
     refine tk 10 oB10 (.bool true) rfl (by kernel_rfl) (fun _ _ _ h=>h) (by rfl) (fun w hSw=>?_) hHeld ?_
     ·(try dsimp only at hSw)
      unfold oB10
      go_simp
     try simp only[oB10,Act.put,zA,zB,zC]
     refine tk 11 oB11 (.bool true) rfl (by kernel_rfl) (fun _ _ _ h=>h) (by rfl) (fun w hSw=>?_) hHeld ?_
     ·(try dsimp only at hSw)
      unfold oB11
      go_simp
     try simp only[oB11,Act.put,zA,zB,zC]
     refine tk 12 oB12 (.pointer (some ⟨w.heap.size,1,none⟩)) rfl (by kernel_rfl) (fun _ _ _ h=>h) (by rfl) (fun w hSw=>?_) hHeld ?_
     ·(try dsimp only at hSw)
      unfold oB12
      go_simp
     try simp only[oB12,Act.put,zA,zB,zC]
     refine tk 13 oB13 (.slice (some ⟨g,0,none⟩) x.ps.length x.c) rfl (by kernel_rfl) (fun _ _ _ h=>h) (by rfl) (fun w hSw=>?_) hHeld ?_
     ·(try dsimp only at hSw)
      unfold oB13
      go_simp
     try simp only[oB13,Act.put,zA,zB,zC]
     refine tk 14 oB14 (.int .i64 k) rfl (by kernel_rfl) (fun _ _ _ h=>h) (by rfl) (fun w hSw=>?_) hHeld ?_
     ·(try dsimp only at hSw)
      unfold oB14
      go_simp
     try simp only[oB14,Act.put,zA,zB,zC]
     refine tk 15 oB15 (.int .i64 p) rfl (by kernel_rfl) (fun _ _ _ h=>h) (by rfl) (fun w hSw=>?_) hHeld ?_
     ·(try dsimp only at hSw)
      unfold oB15
      go_simp
     try simp only[oB15,Act.put,zA,zB,zC]
     refine tk 16 oB16 (.pointer (some ⟨g,p*3,none⟩)) rfl (by kernel_rfl) (fun _ _ _ h=>h) (by rfl) (fun w hSw=>?_) hHeld ?_
     ·(try dsimp only at hSw)
      unfold oB16
      go_simp
     try simp only[oB16,Act.put,zA,zB,zC]
     refine tk 17 oB17 (.pointer (some ⟨g,p*3,none⟩)) rfl (by kernel_rfl) (fun _ _ _ h=>h) (by rfl) (fun w hSw=>?_) hHeld ?_
     ·(try dsimp only at hSw)
      unfold oB17
      go_simp
     try simp only[oB17,Act.put,zA,zB,zC]
     refine tk 18 oB18 (.int .i64 y) rfl (by kernel_rfl) (fun _ _ _ h=>h) (by rfl) (fun w hSw=>?_) hHeld ?_
     ·(try dsimp only at hSw)
      unfold oB18
      go_simp
     try simp only[oB18,Act.put,zA,zB,zC]
     refine tk 19 oB19 (.pointer (some ⟨w.heap.size,1,none⟩)) rfl (by kernel_rfl) (fun _ _ _ h=>h) (by rfl) (fun w hSw=>?_) hHeld ?_
     ·(try dsimp only at hSw)
      unfold oB19
      go_simp
     try simp only[oB19,Act.put,zA,zB,zC]
     refine tk 20 oB20 (.slice (some ⟨g,0,none⟩) x.ps.length x.c) rfl (by kernel_rfl) (fun _ _ _ h=>h) (by rfl) (fun w hSw=>?_) hHeld ?_
     ·(try dsimp only at hSw)
      unfold oB20
      go_simp
     try simp only[oB20,Act.put,zA,zB,zC]
     refine tk 21 oB21 (.int .i64 k) rfl (by kernel_rfl) (fun _ _ _ h=>h) (by rfl) (fun w hSw=>?_) hHeld ?_
     ·(try dsimp only at hSw)
      unfold oB21
      go_simp
     try simp only[oB21,Act.put,zA,zB,zC]
     refine tk 22 oB22 (.pointer (some ⟨g,k*3,none⟩)) rfl (by kernel_rfl) (fun _ _ _ h=>h) (by rfl) (fun w hSw=>?_) hHeld ?_
     ·(try dsimp only at hSw)
      unfold oB22
      go_simp
     try simp only[oB22,Act.put,zA,zB,zC]
     refine tk 23 oB23 (.pointer (some ⟨g,k*3,none⟩)) rfl (by kernel_rfl) (fun _ _ _ h=>h) (by rfl) (fun w hSw=>?_) hHeld ?_
     ·(try dsimp only at hSw)
      unfold oB23
      go_simp
     try simp only[oB23,Act.put,zA,zB,zC]
     refine tk 24 oB24 (.int .i64 z) rfl (by kernel_rfl) (fun _ _ _ h=>h) (by rfl) (fun w hSw=>?_) hHeld ?_
     ·(try dsimp only at hSw)
      unfold oB24
      go_simp
     try simp only[oB24,Act.put,zA,zB,zC]
     refine tk 25 oB25 (.bool false) rfl (by kernel_rfl) (fun _ _ _ h=>h) (by rfl) (fun w hSw=>?_) hHeld ?_
     ·(try dsimp only at hSw)
      unfold oB25
      go_simp
     try simp only[oB25,Act.put,zA,zB,zC]
     refine tk 26 oB26 (.bool false) rfl (by kernel_rfl) (fun _ _ _ h=>h) (by rfl) (fun w hSw=>?_) hHeld ?_
     ·(try dsimp only at hSw)
      unfold oB26
      go_simp
     try simp only[oB26,Act.put,zA,zB,zC]
     refine tk 27 oB27 (.bool false) rfl (by kernel_rfl) (fun _ _ _ h=>h) (by rfl) (fun w hSw=>?_) hHeld ?_
     ·(try dsimp only at hSw)
      unfold oB27
      go_simp
     try simp only[oB27,Act.put,zA,zB,zC]
     refine wpAnyH_done (by kernel_rfl) ?_ _
     go_wp2
     go_roundw
     case rel=>exact⟨k+1,by omega,by go_num,GN,(zu HW).drew⟩
     case measure=>simp[intOf];omega
    ·have F:=zh ((zu BAD) (fun h=>qy (((zu DF).1 h).2 k0)))
     have p0:=(zu RD) k0
     obtain⟨p,hp⟩:∃p,p=k-1:=⟨_,rfl⟩
     rw[←hp] at p0
     have a1:IntKind.i64.wrap ((k:Int) -1)=p:=by simp[IntKind.wrap,go_sem];omega
     have k1:(k:Int)>0:=by omega
     have pl:(p:Int)<x.ps.length:=by omega
     have qn:y≥z:=by omega
     have K6:=And.intro c1 (And.intro d0 p0)
     clear BAD NX DF RD NM0 OK hp qy
     go_wp2_with fail
     refine wp_region_held_drew (S:=(fun w'=>w'.cell? ⟨w.heap.size,1,none⟩=some (.slice (some ⟨g,0,none⟩) x.ps.length x.c)∧w'.cell? ⟨g,k*3,none⟩=some (.int .i64 z)∧w'.cell? ⟨g,p*3,none⟩=some (.int .i64 y))) (by kernel_rfl) K6 (fun hHeld=>?_)
     refine tk 0 oB0 (.pointer (some ⟨w.heap.size,1,none⟩)) rfl (by kernel_rfl) (fun _ _ _ h=>h) (by rfl) (fun w hSw=>?_) hHeld ?_
     ·(try dsimp only at hSw)
      unfold oB0
      go_simp
     try simp only[oB0,Act.put,zA,zB,zC]
     refine tk 1 oB1 (.slice (some ⟨g,0,none⟩) x.ps.length x.c) rfl (by kernel_rfl) (fun _ _ _ h=>h) (by rfl) (fun w hSw=>?_) hHeld ?_
     ·(try dsimp only at hSw)
      unfold oB1
      go_simp
     try simp only[oB1,Act.put,zA,zB,zC]
     refine tk 2 oB2 (.int .i64 k) rfl (by kernel_rfl) (fun _ _ _ h=>h) (by rfl) (fun w hSw=>?_) hHeld ?_
     ·(try dsimp only at hSw)
      unfold oB2
      go_simp
     try simp only[oB2,Act.put,zA,zB,zC]
     refine tk 3 oB3 (.pointer (some ⟨g,k*3,none⟩)) rfl (by kernel_rfl) (fun _ _ _ h=>h) (by rfl) (fun w hSw=>?_) hHeld ?_
     ·(try dsimp only at hSw)
      unfold oB3
      go_simp
     try simp only[oB3,Act.put,zA,zB,zC]
     refine tk 4 oB4 (.pointer (some ⟨g,k*3,none⟩)) rfl (by kernel_rfl) (fun _ _ _ h=>h) (by rfl) (fun w hSw=>?_) hHeld ?_
     ·(try dsimp only at hSw)
      unfold oB4
      go_simp
     try simp only[oB4,Act.put,zA,zB,zC]
     refine tk 5 oB5 (.int .i64 z) rfl (by kernel_rfl) (fun _ _ _ h=>h) (by rfl) (fun w hSw=>?_) hHeld ?_
     ·(try dsimp only at hSw)
      unfold oB5
      go_simp
     try simp only[oB5,Act.put,zA,zB,zC]
     refine wpAnyH_ready (rs:=[6]) (by kernel_rfl) (by simp) ?_
     refine AllReadyH.cons (o:=oB6) rfl (fun K hK=>?_) AllReadyH.nil
     unfold oB6
     go_simp
     go_wp2_with fail
     refine(zu NM _).mono ?_
     rintro e w5 ⟨rfl,rfl⟩
     go_wp2_with fail
     refine hK.out _ _ K6 (fun hHeld=>?_)
     clear hK K
     try simp only[oB6,Act.put,zA,zB,zC]
     refine tk 7 oB7 (.bool false) rfl (by kernel_rfl) (fun _ _ _ h=>h) (by rfl) (fun w hSw=>?_) hHeld ?_
     ·(try dsimp only at hSw)
      unfold oB7
      go_simp
     try simp only[oB7,Act.put,zA,zB,zC]
     refine tk 8 oB8 (.bool false) rfl (by kernel_rfl) (fun _ _ _ h=>h) (by rfl) (fun w hSw=>?_) hHeld ?_
     ·(try dsimp only at hSw)
      unfold oB8
      go_simp
     try simp only[oB8,Act.put,zA,zB,zC]
     refine tk 9 oB9 (.int .i64 k) rfl (by kernel_rfl) (fun _ _ _ h=>h) (by rfl) (fun w hSw=>?_) hHeld ?_
     ·(try dsimp only at hSw)
      unfold oB9
      go_simp
     try simp only[oB9,Act.put,zA,zB,zC]
     refine tk 10 oB10 (.bool true) rfl (by kernel_rfl) (fun _ _ _ h=>h) (by rfl) (fun w hSw=>?_) hHeld ?_
     ·(try dsimp only at hSw)
      unfold oB10
      go_simp
     try simp only[oB10,Act.put,zA,zB,zC]
     refine tk 11 oB11 (.bool true) rfl (by kernel_rfl) (fun _ _ _ h=>h) (by rfl) (fun w hSw=>?_) hHeld ?_
     ·(try dsimp only at hSw)
      unfold oB11
      go_simp
     try simp only[oB11,Act.put,zA,zB,zC]
     refine tk 12 oB12 (.pointer (some ⟨w.heap.size,1,none⟩)) rfl (by kernel_rfl) (fun _ _ _ h=>h) (by rfl) (fun w hSw=>?_) hHeld ?_
     ·(try dsimp only at hSw)
      unfold oB12
      go_simp
     try simp only[oB12,Act.put,zA,zB,zC]
     refine tk 13 oB13 (.slice (some ⟨g,0,none⟩) x.ps.length x.c) rfl (by kernel_rfl) (fun _ _ _ h=>h) (by rfl) (fun w hSw=>?_) hHeld ?_
     ·(try dsimp only at hSw)
      unfold oB13
      go_simp
     try simp only[oB13,Act.put,zA,zB,zC]
     refine tk 14 oB14 (.int .i64 k) rfl (by kernel_rfl) (fun _ _ _ h=>h) (by rfl) (fun w hSw=>?_) hHeld ?_
     ·(try dsimp only at hSw)
      unfold oB14
      go_simp
     try simp only[oB14,Act.put,zA,zB,zC]
     refine tk 15 oB15 (.int .i64 p) rfl (by kernel_rfl) (fun _ _ _ h=>h) (by rfl) (fun w hSw=>?_) hHeld ?_
     ·(try dsimp only at hSw)
      unfold oB15
      go_simp
     try simp only[oB15,Act.put,zA,zB,zC]
     refine tk 16 oB16 (.pointer (some ⟨g,p*3,none⟩)) rfl (by kernel_rfl) (fun _ _ _ h=>h) (by rfl) (fun w hSw=>?_) hHeld ?_
     ·(try dsimp only at hSw)
      unfold oB16
      go_simp
     try simp only[oB16,Act.put,zA,zB,zC]
     refine tk 17 oB17 (.pointer (some ⟨g,p*3,none⟩)) rfl (by kernel_rfl) (fun _ _ _ h=>h) (by rfl) (fun w hSw=>?_) hHeld ?_
     ·(try dsimp only at hSw)
      unfold oB17
      go_simp
     try simp only[oB17,Act.put,zA,zB,zC]
     refine tk 18 oB18 (.int .i64 y) rfl (by kernel_rfl) (fun _ _ _ h=>h) (by rfl) (fun w hSw=>?_) hHeld ?_
     ·(try dsimp only at hSw)
      unfold oB18
      go_simp
     try simp only[oB18,Act.put,zA,zB,zC]
     refine tk 19 oB19 (.pointer (some ⟨w.heap.size,1,none⟩)) rfl (by kernel_rfl) (fun _ _ _ h=>h) (by rfl) (fun w hSw=>?_) hHeld ?_
     ·(try dsimp only at hSw)
      unfold oB19
      go_simp
     try simp only[oB19,Act.put,zA,zB,zC]
     refine tk 20 oB20 (.slice (some ⟨g,0,none⟩) x.ps.length x.c) rfl (by kernel_rfl) (fun _ _ _ h=>h) (by rfl) (fun w hSw=>?_) hHeld ?_
     ·(try dsimp only at hSw)
      unfold oB20
      go_simp
     try simp only[oB20,Act.put,zA,zB,zC]
     refine tk 21 oB21 (.int .i64 k) rfl (by kernel_rfl) (fun _ _ _ h=>h) (by rfl) (fun w hSw=>?_) hHeld ?_
     ·(try dsimp only at hSw)
      unfold oB21
      go_simp
     try simp only[oB21,Act.put,zA,zB,zC]
     refine tk 22 oB22 (.pointer (some ⟨g,k*3,none⟩)) rfl (by kernel_rfl) (fun _ _ _ h=>h) (by rfl) (fun w hSw=>?_) hHeld ?_
     ·(try dsimp only at hSw)
      unfold oB22
      go_simp
     try simp only[oB22,Act.put,zA,zB,zC]
     refine tk 23 oB23 (.pointer (some ⟨g,k*3,none⟩)) rfl (by kernel_rfl) (fun _ _ _ h=>h) (by rfl) (fun w hSw=>?_) hHeld ?_
     ·(try dsimp only at hSw)
      unfold oB23
      go_simp
     try simp only[oB23,Act.put,zA,zB,zC]
     refine tk 24 oB24 (.int .i64 z) rfl (by kernel_rfl) (fun _ _ _ h=>h) (by rfl) (fun w hSw=>?_) hHeld ?_
     ·(try dsimp only at hSw)
      unfold oB24
      go_simp
     try simp only[oB24,Act.put,zA,zB,zC]
     refine tk 25 oB25 (.bool true) rfl (by kernel_rfl) (fun _ _ _ h=>h) (by rfl) (fun w hSw=>?_) hHeld ?_
     ·(try dsimp only at hSw)
      unfold oB25
      go_simp
     try simp only[oB25,Act.put,zA,zB,zC]
     refine tk 26 oB26 (.bool true) rfl (by kernel_rfl) (fun _ _ _ h=>h) (by rfl) (fun w hSw=>?_) hHeld ?_
     ·(try dsimp only at hSw)
      unfold oB26
      go_simp
     try simp only[oB26,Act.put,zA,zB,zC]
     refine tk 27 oB27 (.bool true) rfl (by kernel_rfl) (fun _ _ _ h=>h) (by rfl) (fun w hSw=>?_) hHeld ?_
     ·(try dsimp only at hSw)
      unfold oB27
      go_simp
     try simp only[oB27,Act.put,zA,zB,zC]
     refine wpAnyH_done (by kernel_rfl) ?_ _
     go_wp2
     go_ret
     exact⟨by rw[zu F];rfl,(zu HW).b.drew⟩
   ·have GN:=zh ((zu NX) ((zu DF).2 ⟨qb,fun h=>absurd h k0⟩))
    have kn:¬(k:Int)>0:=by omega
    have K6:=And.intro c1 d0
    clear BAD NX DF RD NM0 OK
    go_wp2_with fail
    refine wp_region_held_drew (S:=(fun w'=>w'.cell? ⟨w.heap.size,1,none⟩=some (.slice (some ⟨g,0,none⟩) x.ps.length x.c)∧w'.cell? ⟨g,k*3,none⟩=some (.int .i64 z))) (by kernel_rfl) K6 (fun hHeld=>?_)
    refine tk 0 oB0 (.pointer (some ⟨w.heap.size,1,none⟩)) rfl (by kernel_rfl) (fun _ _ _ h=>h) (by rfl) (fun w hSw=>?_) hHeld ?_
    ·(try dsimp only at hSw)
     unfold oB0
     go_simp
    try simp only[oB0,Act.put,zA,zB,zC]
    refine tk 1 oB1 (.slice (some ⟨g,0,none⟩) x.ps.length x.c) rfl (by kernel_rfl) (fun _ _ _ h=>h) (by rfl) (fun w hSw=>?_) hHeld ?_
    ·(try dsimp only at hSw)
     unfold oB1
     go_simp
    try simp only[oB1,Act.put,zA,zB,zC]
    refine tk 2 oB2 (.int .i64 k) rfl (by kernel_rfl) (fun _ _ _ h=>h) (by rfl) (fun w hSw=>?_) hHeld ?_
    ·(try dsimp only at hSw)
     unfold oB2
     go_simp
    try simp only[oB2,Act.put,zA,zB,zC]
    refine tk 3 oB3 (.pointer (some ⟨g,k*3,none⟩)) rfl (by kernel_rfl) (fun _ _ _ h=>h) (by rfl) (fun w hSw=>?_) hHeld ?_
    ·(try dsimp only at hSw)
     unfold oB3
     go_simp
    try simp only[oB3,Act.put,zA,zB,zC]
    refine tk 4 oB4 (.pointer (some ⟨g,k*3,none⟩)) rfl (by kernel_rfl) (fun _ _ _ h=>h) (by rfl) (fun w hSw=>?_) hHeld ?_
    ·(try dsimp only at hSw)
     unfold oB4
     go_simp
    try simp only[oB4,Act.put,zA,zB,zC]
    refine tk 5 oB5 (.int .i64 z) rfl (by kernel_rfl) (fun _ _ _ h=>h) (by rfl) (fun w hSw=>?_) hHeld ?_
    ·(try dsimp only at hSw)
     unfold oB5
     go_simp
    try simp only[oB5,Act.put,zA,zB,zC]
    refine wpAnyH_ready (rs:=[6]) (by kernel_rfl) (by simp) ?_
    refine AllReadyH.cons (o:=oB6) rfl (fun K hK=>?_) AllReadyH.nil
    unfold oB6
    go_simp
    go_wp2_with fail
    refine(zu NM _).mono ?_
    rintro e w5 ⟨rfl,rfl⟩
    go_wp2_with fail
    refine hK.out _ _ K6 (fun hHeld=>?_)
    clear hK K
    try simp only[oB6,Act.put,zA,zB,zC]
    refine tk 7 oB7 (.bool false) rfl (by kernel_rfl) (fun _ _ _ h=>h) (by rfl) (fun w hSw=>?_) hHeld ?_
    ·(try dsimp only at hSw)
     unfold oB7
     go_simp
    try simp only[oB7,Act.put,zA,zB,zC]
    refine tk 8 oB8 (.bool false) rfl (by kernel_rfl) (fun _ _ _ h=>h) (by rfl) (fun w hSw=>?_) hHeld ?_
    ·(try dsimp only at hSw)
     unfold oB8
     go_simp
    try simp only[oB8,Act.put,zA,zB,zC]
    refine tk 9 oB9 (.int .i64 k) rfl (by kernel_rfl) (fun _ _ _ h=>h) (by rfl) (fun w hSw=>?_) hHeld ?_
    ·(try dsimp only at hSw)
     unfold oB9
     go_simp
    try simp only[oB9,Act.put,zA,zB,zC]
    refine tk 10 oB10 (.bool false) rfl (by kernel_rfl) (fun _ _ _ h=>h) (by rfl) (fun w hSw=>?_) hHeld ?_
    ·(try dsimp only at hSw)
     unfold oB10
     go_simp
    try simp only[oB10,Act.put,zA,zB,zC]
    refine tk 11 oB11 (.bool false) rfl (by kernel_rfl) (fun _ _ _ h=>h) (by rfl) (fun w hSw=>?_) hHeld ?_
    ·(try dsimp only at hSw)
     unfold oB11
     go_simp
    try simp only[oB11,Act.put,zA,zB,zC]
    refine sk 12 oB12 rfl (by kernel_rfl) (fun _ _ _ h=>h) (by rfl) hHeld ?_
    try simp only[oB12,Act.put,zA,zB,zC]
    refine sk 13 oB13 rfl (by kernel_rfl) (fun _ _ _ h=>h) (by rfl) hHeld ?_
    try simp only[oB13,Act.put,zA,zB,zC]
    refine sk 14 oB14 rfl (by kernel_rfl) (fun _ _ _ h=>h) (by rfl) hHeld ?_
    try simp only[oB14,Act.put,zA,zB,zC]
    refine sk 15 oB15 rfl (by kernel_rfl) (fun _ _ _ h=>h) (by rfl) hHeld ?_
    try simp only[oB15,Act.put,zA,zB,zC]
    refine sk 16 oB16 rfl (by kernel_rfl) (fun _ _ _ h=>h) (by rfl) hHeld ?_
    try simp only[oB16,Act.put,zA,zB,zC]
    refine sk 17 oB17 rfl (by kernel_rfl) (fun _ _ _ h=>h) (by rfl) hHeld ?_
    try simp only[oB17,Act.put,zA,zB,zC]
    refine sk 18 oB18 rfl (by kernel_rfl) (fun _ _ _ h=>h) (by rfl) hHeld ?_
    try simp only[oB18,Act.put,zA,zB,zC]
    refine sk 19 oB19 rfl (by kernel_rfl) (fun _ _ _ h=>h) (by rfl) hHeld ?_
    try simp only[oB19,Act.put,zA,zB,zC]
    refine sk 20 oB20 rfl (by kernel_rfl) (fun _ _ _ h=>h) (by rfl) hHeld ?_
    try simp only[oB20,Act.put,zA,zB,zC]
    refine sk 21 oB21 rfl (by kernel_rfl) (fun _ _ _ h=>h) (by rfl) hHeld ?_
    try simp only[oB21,Act.put,zA,zB,zC]
    refine sk 22 oB22 rfl (by kernel_rfl) (fun _ _ _ h=>h) (by rfl) hHeld ?_
    try simp only[oB22,Act.put,zA,zB,zC]
    refine sk 23 oB23 rfl (by kernel_rfl) (fun _ _ _ h=>h) (by rfl) hHeld ?_
    try simp only[oB23,Act.put,zA,zB,zC]
    refine sk 24 oB24 rfl (by kernel_rfl) (fun _ _ _ h=>h) (by rfl) hHeld ?_
    try simp only[oB24,Act.put,zA,zB,zC]
    refine sk 25 oB25 rfl (by kernel_rfl) (fun _ _ _ h=>h) (by rfl) hHeld ?_
    try simp only[oB25,Act.put,zA,zB,zC]
    refine tk 26 oB26 (.bool false) rfl (by kernel_rfl) (fun _ _ _ h=>h) (by rfl) (fun w hSw=>?_) hHeld ?_
    ·(try dsimp only at hSw)
     unfold oB26
     go_simp
    try simp only[oB26,Act.put,zA,zB,zC]
    refine tk 27 oB27 (.bool false) rfl (by kernel_rfl) (fun _ _ _ h=>h) (by rfl) (fun w hSw=>?_) hHeld ?_
    ·(try dsimp only at hSw)
     unfold oB27
     go_simp
    try simp only[oB27,Act.put,zA,zB,zC]
    refine wpAnyH_done (by kernel_rfl) ?_ _
    go_wp2
    go_roundw
    case rel=>exact⟨k+1,by omega,by go_num,GN,(zu HW).drew⟩
    case measure=>simp[intOf];omega
  ·have e:k=x.ps.length:=by omega
   have E:=zh ((zu OK) (by rw[←e];exact zu HY))
   clear HY OK
   subst e
   go_wp2
   go_ret
   exact⟨by rw[zu E];rfl,(zu HW).b⟩
end SOk14
namespace SRd14
open Fil14 OpensF14 DiskH14 DkH14 SDk14 SOk14
def bytesAt(ps:List TF)(k:Nat):ByteArray:=(elF ps k).2.1++(elF ps k).2.2
def readD(room:Int)(ps:List TF)(nm:Int):ByteArray×Bool:=if OkD room ps∧0≤findF ps nm then(bytesAt ps (findF ps nm).toNat,true) else(ByteArray.empty,false)
theorem sDiskRead(w:World)(x:Dx)(nm:Int)(hr:RdD w x)(hz:sumZ x.ps≤1048576):
  Calls Tryz.prog 14 #[.agg #[.int .i64 x.room,.slice x.a x.ps.length x.c],.int .i64 nm] w fun e w'=>e= .returned (.tuple #[.string (readD x.room x.ps nm).1,.bool (readD x.room x.ps nm).2])∧Below w.heap.size w w':=by
 have W0:=zh (Wd.made hr 39)
 have FD:=zh (sFind _ x nm (zu W0).r)
 have AT:=zh (fun h=>findF_in (ps:=x.ps) (nm:=nm) h)
 have RE:=zh (show readD x.room x.ps nm=if OkD x.room x.ps∧0≤findF x.ps nm then(bytesAt x.ps (findF x.ps nm).toNat,true) else(ByteArray.empty,false) from rfl)
 generalize readD x.room x.ps nm=rr at *
 generalize findF x.ps nm=f at *
 have h20:=hr.n
 clear hr
 go_enter Tryz.func14,Tryz.ntmps14
 go_wp2_with fail
 refine(zu FD).mono ?_
 rintro e w1 ⟨rfl,b1⟩
 have W1:=zh ((zu W0).step b1)
 clear b1 FD W0
 have c0:=(zu W1).c0
 have c1:=(zu W1).c1
 have lt:=(zu W1).lt
 have OK0:=zh (sDiskOk w1 x (zu W1).r hz)
 by_cases q:OkD x.room x.ps
 case neg=>
  have OK:=zh (show Calls Tryz.prog 32 #[.agg #[.int .i64 x.room,.slice x.a x.ps.length x.c]] w1 fun e w'=>e= .returned (.bool false)∧Below w1.heap.size w1 w' by have:=zu OK0;rw[decide_eq_false q] at this;exact this)
  have E:=zh (show rr=(ByteArray.empty,false) by rw[zu RE,if_neg (fun h=>q h.1)])
  clear OK0 RE q AT
  go_wp2_with fail
  refine(zu OK).mono ?_
  rintro e w2 ⟨rfl,b2⟩
  have W2:=zh ((zu W1).step b2)
  clear b2
  go_wp2
  go_ret2
  exact⟨by rw[zu E];rfl,(zu W2).b⟩
 have OK:=zh (show Calls Tryz.prog 32 #[.agg #[.int .i64 x.room,.slice x.a x.ps.length x.c]] w1 fun e w'=>e= .returned (.bool true)∧Below w1.heap.size w1 w' by have:=zu OK0;rw[decide_eq_true q] at this;exact this)
 by_cases q0:f<0
 ·have E:=zh (show rr=(ByteArray.empty,false) by rw[zu RE,if_neg (fun h=>by omega)])
  clear OK0 RE q AT
  go_wp2_with fail
  refine(zu OK).mono ?_
  rintro e w2 ⟨rfl,b2⟩
  have W2:=zh ((zu W1).step b2)
  clear b2
  go_wp2
  go_ret2
  exact⟨by rw[zu E];rfl,(zu W2).b⟩
 ·obtain⟨k,rfl,kl,_⟩:=(zu AT) (by omega)
  have E:=zh (show rr=(bytesAt x.ps k,true) by rw[zu RE,if_pos ⟨q,by omega⟩];rfl)
  clear OK0 RE q AT
  have kt:(k:Int)<x.ps.length:=by omega
  go_wp2_with fail
  refine(zu OK).mono ?_
  rintro e w2 ⟨rfl,b2⟩
  have W2:=zh ((zu W1).step b2)
  clear b2 c0 c1 lt W1
  have c1:=(zu W2).c1
  have lt:=(zu W2).lt
  obtain⟨g,ea,lg,d0,d1,d2⟩:=cells_of (zu W2).r kl
  have ES:=zh (show bytesAt x.ps k=(elF x.ps k).2.1++(elF x.ps k).2.2 from rfl)
  have NX:=sumZ_next kl
  have LE:=sumZ_le x.ps (k+1)
  have s1:(elF x.ps k).2.1.size+(elF x.ps k).2.2.size≤1048576:=by omega
  generalize (elF x.ps k).2.1=z1 at *
  generalize (elF x.ps k).2.2=z2 at *
  rw[ea] at c1
  clear ea NX LE
  go_wp2_with fail
  go_region
  go_wp2
  go_ret2
  exact⟨by rw[zu E,zu ES];rfl,(zu W2).b.drew⟩
end SRd14
namespace App14
open Fil14 OpensF14 DiskH14 DkH14 SDk14 SOk14 SRd14
theorem kcell{W W':World}{G g:Nat}(k:W.grownBy W' (some G))(o:Nat)(hg:g<W.heap.size)(hG:g≠G):W'.cell? ⟨g,o,none⟩=W.cell? ⟨g,o,none⟩:=
 World.cell?_of_block (w:=W) (k.block g hg (by simpa using hG))
end App14
namespace SLess14
open Fil14 OpensF14 DiskH14 DkH14 SDk14 SOk14 SRd14 App14
open DkH14 (row_step)
theorem grow_low{B:Nat}{w W W':World}{G:Nat}(h:Below B w W)(k:W.grownBy W' (some G))(hB:B≤G∧B≤W.heap.size):Below B w W':=
 ⟨k.os.trans h.os,k.tape.trans h.tape,k.output.trans h.output,Nat.le_trans h.size k.size,fun i hi=>(k.block i (by omega) (by simp;omega)).trans (h.block i hi)⟩
end SLess14
namespace SCom14
open Fil14 OpensF14 DiskH14 DkH14 SDk14 SOk14 SRd14 App14 SLess14
theorem ixF{a:Option Addr}{g n k:Nat}(c:Nat)(e:a=some ⟨g,0,none⟩)(h:k<n)(w:World):(Instr.indexAt 37 (.slice a n c) (.int .i64 k)).run Tryz.prog w= .ok (.pointer (some ⟨g,k*3,none⟩)) w:=by
 subst e
 have:(k:Int)<n:=by omega
 simp[go_sem,this]
end SCom14
namespace Law14
open Fil14 OpensF14 DiskH14 DkH14 SCom14
structure La(w W:World)(k:Int)(a:Option Addr)(len cap:Nat)(ps:List TF):Prop where
 c0:W.cell? ⟨w.heap.size,0,none⟩=some (.int .i64 k)
 c1:W.cell? ⟨w.heap.size,1,none⟩=some (.slice a len cap)
 s:w.heap.size<W.heap.size
 b:Below w.heap.size w W
 r:ReadsF W a ps
section
variable {w W W':World} {k:Int} {a:Option Addr} {len cap:Nat} {ps:List TF}
theorem La.start(h:ReadsF w a ps)(e:TypeId):La w (w.alloc (.cells #[.int .i64 k,.slice a len cap] e)) k a len cap ps:=
 ⟨by simp,by simp,by simp,one_more _ _,h.below (one_more _ _)⟩
theorem La.step(h:La w W k a len cap ps)(b:Below W.heap.size W W'):La w W' k a len cap ps:=
 ⟨(b.cell (p:=⟨w.heap.size,0,none⟩) h.s).trans h.c0,(b.cell (p:=⟨w.heap.size,1,none⟩) h.s).trans h.c1,Nat.lt_of_lt_of_le h.s b.size,h.b.trans (b.mono (Nat.le_of_lt h.s)),h.r.below b⟩
theorem La.turn{B:Nat}(H:ReadsF w a ps)(h:La w W k a len cap ps)(b:Below B W W')(hB:w.heap.size<B):La w W' k a len cap ps:=by
 have q:=h.b.trans (b.mono (Nat.le_of_lt hB))
 exact⟨(b.cell (p:=⟨w.heap.size,0,none⟩) hB).trans h.c0,(b.cell (p:=⟨w.heap.size,1,none⟩) hB).trans h.c1,Nat.lt_of_lt_of_le h.s b.size,q,H.below q⟩
end
structure Kd(W:World)(g:Nat)(x:Dx):Prop where
 c0:W.cell? ⟨g,0,none⟩=some (.int .i64 x.room)
 c1:W.cell? ⟨g,1,none⟩=some (.slice x.a x.ps.length x.c)
 lt:g<W.heap.size
theorem Kd.made(w:World)(x:Dx)(e:TypeId):Kd (w.alloc (.cells #[.int .i64 x.room,.slice x.a x.ps.length x.c] e)) w.heap.size x:=⟨by simp,by simp,by simp⟩
theorem Kd.step{W W':World}{g:Nat}{x:Dx}(h:Kd W g x)(k:Below W.heap.size W W'):Kd W' g x:=
 ⟨(k.cell (p:=⟨g,0,none⟩) h.lt).trans h.c0,(k.cell (p:=⟨g,1,none⟩) h.lt).trans h.c1,Nat.lt_of_lt_of_le h.lt k.size⟩
theorem Kd.turn{W W':World}{g:Nat}{x y:Dx}(h:Kd W g x)(k:TurnD y W W')(n:some g≠(Value.slice y.a y.ps.length y.c).ownBlock):Kd W' g x:=by
 have e:W'.heap[g]?=W.heap[g]?:=k.block g h.lt n
 exact⟨(World.cell?_of_block (w:=W) e).trans h.c0,(World.cell?_of_block (w:=W) e).trans h.c1,Nat.lt_of_lt_of_le h.lt k.size⟩
theorem own_lt{W:World}{base g:Nat}{y:Dx}(h:OwD W base y)(e:(Value.slice y.a y.ps.length y.c).ownBlock=some g):base≤g∧g<W.heap.size:=World.ownsRow.lt h g e
end Law14
namespace Bx16
def Bx7(w:World)(base g:Nat)(v0 v1 v2 v3 v4 v5 v6:Value):Prop:=w.ownsRow base 34 7 (.slice (some ⟨g,0,none⟩) 1 1) 1 [v0,v1,v2,v3,v4,v5,v6]
theorem Bx7.made{w:World}{base g:Nat}(v0 v1 v2 v3 v4 v5 v6:Value)(hb:base≤w.heap.size)(hg:g=w.heap.size):Bx7 (w.alloc (.cells #[v0,v1,v2,v3,v4,v5,v6] 34)) base g v0 v1 v2 v3 v4 v5 v6:=by
 subst hg
 exact⟨rfl,.inr ⟨w.heap.size,1,#[v0,v1,v2,v3,v4,v5,v6],rfl,hb,heap_alloc_new w _,Nat.le_refl _,by unfold maxLen;omega,rfl,rfl⟩⟩
section
variable {w w':World} {base g:Nat} {v0 v1 v2 v3 v4 v5 v6:Value}
theorem Bx7.lt(h:Bx7 w base g v0 v1 v2 v3 v4 v5 v6):base≤g∧g<w.heap.size:=World.ownsRow.lt h g rfl
theorem Bx7.free(h:Bx7 w base g v0 v1 v2 v3 v4 v5 v6)(i:Nat):w.frozen? ⟨g,i,none⟩=false:=World.ownsRow.frozenAt h i
theorem Bx7.c0(h:Bx7 w base g v0 v1 v2 v3 v4 v5 v6):w.cell? ⟨g,0,none⟩=some v0:=(World.ownsRow.cellAt h 0 (by omega)).trans rfl
theorem Bx7.c1(h:Bx7 w base g v0 v1 v2 v3 v4 v5 v6):w.cell? ⟨g,1,none⟩=some v1:=(World.ownsRow.cellAt h 1 (by omega)).trans rfl
theorem Bx7.c2(h:Bx7 w base g v0 v1 v2 v3 v4 v5 v6):w.cell? ⟨g,2,none⟩=some v2:=(World.ownsRow.cellAt h 2 (by omega)).trans rfl
theorem Bx7.c3(h:Bx7 w base g v0 v1 v2 v3 v4 v5 v6):w.cell? ⟨g,3,none⟩=some v3:=(World.ownsRow.cellAt h 3 (by omega)).trans rfl
theorem Bx7.c4(h:Bx7 w base g v0 v1 v2 v3 v4 v5 v6):w.cell? ⟨g,4,none⟩=some v4:=(World.ownsRow.cellAt h 4 (by omega)).trans rfl
theorem Bx7.c5(h:Bx7 w base g v0 v1 v2 v3 v4 v5 v6):w.cell? ⟨g,5,none⟩=some v5:=(World.ownsRow.cellAt h 5 (by omega)).trans rfl
theorem Bx7.c6(h:Bx7 w base g v0 v1 v2 v3 v4 v5 v6):w.cell? ⟨g,6,none⟩=some v6:=(World.ownsRow.cellAt h 6 (by omega)).trans rfl
theorem Bx7.set0(h:Bx7 w base g v0 v1 v2 v3 v4 v5 v6)(u:Value):Bx7 (w.setCell ⟨g,0,none⟩ u) base g u v1 v2 v3 v4 v5 v6∧w.grownBy (w.setCell ⟨g,0,none⟩ u) (some g):=World.ownsRow.stored h 0 u
theorem Bx7.set1(h:Bx7 w base g v0 v1 v2 v3 v4 v5 v6)(u:Value):Bx7 (w.setCell ⟨g,1,none⟩ u) base g v0 u v2 v3 v4 v5 v6∧w.grownBy (w.setCell ⟨g,1,none⟩ u) (some g):=World.ownsRow.stored h 1 u
theorem Bx7.set2(h:Bx7 w base g v0 v1 v2 v3 v4 v5 v6)(u:Value):Bx7 (w.setCell ⟨g,2,none⟩ u) base g v0 v1 u v3 v4 v5 v6∧w.grownBy (w.setCell ⟨g,2,none⟩ u) (some g):=World.ownsRow.stored h 2 u
theorem Bx7.set3(h:Bx7 w base g v0 v1 v2 v3 v4 v5 v6)(u:Value):Bx7 (w.setCell ⟨g,3,none⟩ u) base g v0 v1 v2 u v4 v5 v6∧w.grownBy (w.setCell ⟨g,3,none⟩ u) (some g):=World.ownsRow.stored h 3 u
theorem Bx7.set4(h:Bx7 w base g v0 v1 v2 v3 v4 v5 v6)(u:Value):Bx7 (w.setCell ⟨g,4,none⟩ u) base g v0 v1 v2 v3 u v5 v6∧w.grownBy (w.setCell ⟨g,4,none⟩ u) (some g):=World.ownsRow.stored h 4 u
theorem Bx7.set5(h:Bx7 w base g v0 v1 v2 v3 v4 v5 v6)(u:Value):Bx7 (w.setCell ⟨g,5,none⟩ u) base g v0 v1 v2 v3 v4 u v6∧w.grownBy (w.setCell ⟨g,5,none⟩ u) (some g):=World.ownsRow.stored h 5 u
theorem Bx7.set6(h:Bx7 w base g v0 v1 v2 v3 v4 v5 v6)(u:Value):Bx7 (w.setCell ⟨g,6,none⟩ u) base g v0 v1 v2 v3 v4 v5 u∧w.grownBy (w.setCell ⟨g,6,none⟩ u) (some g):=World.ownsRow.stored h 6 u
theorem Bx7.below{B:Nat}(h:Bx7 w base g v0 v1 v2 v3 v4 v5 v6)(k:Below B w w')(hg:g<B):Bx7 w' base g v0 v1 v2 v3 v4 v5 v6:=by
 refine⟨h.1,?_⟩
 rcases h.2 with⟨h1,_⟩|⟨g',c,cur,h1,h2,h3,h4⟩
 ·simp at h1
 ·have e:g=g':=by simp at h1;exact h1.1
  subst e
  exact .inr ⟨g,c,cur,h1,h2,(k.block g hg).trans h3,h4⟩
theorem Bx7.kept{row:Option Nat}(h:Bx7 w base g v0 v1 v2 v3 v4 v5 v6)(k:w.grownBy w' row)(hne:some g≠row):Bx7 w' base g v0 v1 v2 v3 v4 v5 v6:=World.ownsRow.kept h k (Or.inr hne)
end
theorem grow_grow{w w1 w2:World}{row:Option Nat}(h:w.grownBy w1 row)(k:w1.grownBy w2 row):w.grownBy w2 row:=
 ⟨k.os.trans h.os,k.tape.trans h.tape,k.output.trans h.output,Nat.le_trans h.size k.size,fun i hi hr=>(k.block i (Nat.lt_of_lt_of_le hi h.size) hr).trans (h.block i hi hr)⟩
theorem grow_low{B:Nat}{w W W':World}{G:Nat}(h:Below B w W)(k:W.grownBy W' (some G))(hB:B≤G∧B≤W.heap.size):Below B w W':=
 ⟨k.os.trans h.os,k.tape.trans h.tape,k.output.trans h.output,Nat.le_trans h.size k.size,fun i hi=>(k.block i (by omega) (by simp;omega)).trans (h.block i hi)⟩
end Bx16
namespace LoadH16
open BMem Bks BHelp BkEq BMemV13 VB13
open SRead13L (row_step)
open IBalsFit (one_more)
open Bx16
structure SvV(w W:World)(g:Nat)(f:Int)(x:Ix):Prop where
 f:W.cell? ⟨g,0,none⟩=some (.int .i64 f)
 c0:W.cell? ⟨g,1,none⟩=some (.slice x.aa x.b.ac.length x.ca)
 c1:W.cell? ⟨g,2,none⟩=some (.slice x.ai x.b.ic.length x.ci)
 c2:W.cell? ⟨g,3,none⟩=some (.slice x.ab x.b.bs.length x.cb)
 c3:W.cell? ⟨g,4,none⟩=some (.slice x.al x.b.ls.length x.cl)
 c4:W.cell? ⟨g,5,none⟩=some (.slice x.ats x.b.ts.length x.ct)
 c5:W.cell? ⟨g,6,none⟩=some (.int .i64 x.b.lot)
 b:Below w.heap.size w W
 lt:g<W.heap.size
theorem SvV.step{w W W':World}{g:Nat}{f:Int}{x:Ix}(h:SvV w W g f x)(k:Below W.heap.size W W'):SvV w W' g f x:=
 ⟨(k.cell (p:=⟨g,0,none⟩) h.lt).trans h.f,(k.cell (p:=⟨g,1,none⟩) h.lt).trans h.c0,(k.cell (p:=⟨g,2,none⟩) h.lt).trans h.c1,(k.cell (p:=⟨g,3,none⟩) h.lt).trans h.c2,(k.cell (p:=⟨g,4,none⟩) h.lt).trans h.c3,(k.cell (p:=⟨g,5,none⟩) h.lt).trans h.c4,(k.cell (p:=⟨g,6,none⟩) h.lt).trans h.c5,h.b.trans (k.mono h.b.size),Nat.lt_of_lt_of_le h.lt k.size⟩
theorem SvV.made{w W:World}(x:Ix)(b:Below w.heap.size w W)(f:Int)(e:TypeId):SvV w (W.alloc (.cells #[.int .i64 f,.slice x.aa x.b.ac.length x.ca,.slice x.ai x.b.ic.length x.ci,.slice x.ab x.b.bs.length x.cb,.slice x.al x.b.ls.length x.cl,.slice x.ats x.b.ts.length x.ct,.int .i64 x.b.lot] e)) W.heap.size f x:=
 ⟨by simp,by simp,by simp,by simp,by simp,by simp,by simp,b.alloc b.size _,by simp⟩
theorem OwV.low{w w':World}{B:Nat}{x:Ix}(h:OwV w B x)(k:Below w.heap.size w w'):OwV w' B x:=h.step k
theorem eqSvV(w:World)(f:Int)(x y:Ix)(hb:y.b=x.b)(hx:RdV w x)(hy:RdV w y):
  Calls Tryz.prog 8 #[.agg #[.int .i64 f,.slice x.aa x.b.ac.length x.ca,.slice x.ai x.b.ic.length x.ci,.slice x.ab x.b.bs.length x.cb,.slice x.al x.b.ls.length x.cl,.slice x.ats x.b.ts.length x.ct,.int .i64 x.b.lot],.agg #[.int .i64 f,.slice y.aa y.b.ac.length y.ca,.slice y.ai y.b.ic.length y.ci,.slice y.ab y.b.bs.length y.cb,.slice y.al y.b.ls.length y.cl,.slice y.ats y.b.ts.length y.ct,.int .i64 y.b.lot]] w fun e w'=>e= .returned (.bool true)∧Below w.heap.size w w':=by
 have S1:=zh (SvV.made x (Below.refl _ w) f 34)
 have b2:=one_more (w.alloc (.cells #[.int .i64 f,.slice x.aa x.b.ac.length x.ca,.slice x.ai x.b.ic.length x.ci,.slice x.ab x.b.bs.length x.cb,.slice x.al x.b.ls.length x.cl,.slice x.ats x.b.ts.length x.ct,.int .i64 x.b.lot] 34)) (.cells #[.int .i64 f,.slice y.aa y.b.ac.length y.ca,.slice y.ai y.b.ic.length y.ci,.slice y.ab y.b.bs.length y.cb,.slice y.al y.b.ls.length y.cl,.slice y.ats y.b.ts.length y.ct,.int .i64 y.b.lot] 34)
 have S2:=zh ((zu S1).step b2)
 have t2:=SvV.made y (zu S1).b f 34
 rw[show(w.alloc (.cells #[.int .i64 f,.slice x.aa x.b.ac.length x.ca,.slice x.ai x.b.ic.length x.ci,.slice x.ab x.b.bs.length x.cb,.slice x.al x.b.ls.length x.cl,.slice x.ats x.b.ts.length x.ct,.int .i64 x.b.lot] 34)).heap.size=w.heap.size+1 by simp] at t2
 have T2:=zh t2
 have RX:=zh ((hx.below (one_more w (.cells #[.int .i64 f,.slice x.aa x.b.ac.length x.ca,.slice x.ai x.b.ic.length x.ci,.slice x.ab x.b.bs.length x.cb,.slice x.al x.b.ls.length x.cl,.slice x.ats x.b.ts.length x.ct,.int .i64 x.b.lot] 34))).below b2)
 have RY:=zh ((hy.below (one_more w (.cells #[.int .i64 f,.slice x.aa x.b.ac.length x.ca,.slice x.ai x.b.ic.length x.ci,.slice x.ab x.b.bs.length x.cb,.slice x.al x.b.ls.length x.cl,.slice x.ats x.b.ts.length x.ct,.int .i64 x.b.lot] 34))).below b2)
 clear b2 t2
 have c0:=(zu S2).f
 have d0:=(zu T2).f
 have c1:=(zu S2).c0
 have d1:=(zu T2).c0
 have c2:=(zu S2).c1
 have d2:=(zu T2).c1
 have c3:=(zu S2).c2
 have d3:=(zu T2).c2
 have c4:=(zu S2).c3
 have d4:=(zu T2).c3
 have c5:=(zu S2).c4
 have d5:=(zu T2).c4
 have c6:=(zu S2).c5
 have d6:=(zu T2).c5
 have ff:(f !=f)=false:=by simp
 have HB:=zh hb
 clear hx hy hb
 go_enter Tryz.func8,Tryz.ntmps8
 go_wp2_with fail
 refine(eqBV _ x y (zu HB) (zu RX) (zu RY)).mono ?_
 rintro e u ⟨rfl,bb⟩
 have B2:=zh ((zu S2).b.trans (bb.mono (zu S2).b.size))
 clear bb
 go_wp2
 go_ret
 exact⟨rfl,zu B2⟩
theorem TurnV.after{x:Ix}{w u v:World}(h:Below w.heap.size w u)(k:TurnV x u v):TurnV x w v:=
 ⟨k.os.trans h.os,k.tape.trans h.tape,k.output.trans h.output,Nat.le_trans h.size k.size,fun j hj a b c d e=>(k.block j (Nat.lt_of_lt_of_le hj h.size) a b c d e).trans (h.block j hj)⟩
theorem markSvV(w:World)(base:Nat)(f:Int)(x:Ix)(h:OwV w base x)(hb:base≤w.heap.size)(hs:Small x.b):
  Calls Tryz.prog 11 #[.agg #[.int .i64 f,.slice x.aa x.b.ac.length x.ca,.slice x.ai x.b.ic.length x.ci,.slice x.ab x.b.bs.length x.cb,.slice x.al x.b.ls.length x.cl,.slice x.ats x.b.ts.length x.ct,.int .i64 x.b.lot],.int .i64 1] w fun e w'=>e= .returned (.int .i64 (e5 x.b))∧OwMV w' base x∧TurnV x w w':=by
 have b1:=one_more w (.cells #[.int .i64 f,.slice x.aa x.b.ac.length x.ca,.slice x.ai x.b.ic.length x.ci,.slice x.ab x.b.bs.length x.cb,.slice x.al x.b.ls.length x.cl,.slice x.ats x.b.ts.length x.ct,.int .i64 x.b.lot] 34)
 have MK:=zh (markBV (w.alloc (.cells #[.int .i64 f,.slice x.aa x.b.ac.length x.ca,.slice x.ai x.b.ic.length x.ci,.slice x.ab x.b.bs.length x.cb,.slice x.al x.b.ls.length x.cl,.slice x.ats x.b.ts.length x.ct,.int .i64 x.b.lot] 34)) base x (h.step b1) (Nat.le_trans hb b1.size) hs)
 have C1:=zh (SvV.made x (Below.refl _ w) f 34)
 have BD:=zh (e_bd hs)
 have B1:=zh b1
 clear h hs b1
 have c0:=(zu C1).f
 have c1:=(zu C1).c0
 have c2:=(zu C1).c1
 have c3:=(zu C1).c2
 have c4:=(zu C1).c3
 have c5:=(zu C1).c4
 have c6:=(zu C1).c5
 go_enter Tryz.func11,Tryz.ntmps11
 go_wp2_with fail
 refine(zu MK).mono ?_
 rintro e u ⟨rfl,om,t⟩
 have T2:=zh (TurnV.after (zu B1) t)
 have OM:=zh om
 clear t om
 go_wp2
 go_ret
 exact⟨rfl,zu OM,zu T2⟩
theorem heldSvV(w:World)(base:Nat)(f:Int)(x:Ix)(h:OwMV w base x)(hs:Small x.b):
  Calls Tryz.prog 12 #[.agg #[.int .i64 f,.slice x.aa x.b.ac.length x.ca,.slice x.ai x.b.ic.length x.ci,.slice x.ab x.b.bs.length x.cb,.slice x.al x.b.ls.length x.cl,.slice x.ats x.b.ts.length x.ct,.int .i64 x.b.lot],.int .i64 1] w fun e w'=>e= .returned (.int .i64 (e5 x.b))∧Below w.heap.size w w':=by
 have b1:=one_more w (.cells #[.int .i64 f,.slice x.aa x.b.ac.length x.ca,.slice x.ai x.b.ic.length x.ci,.slice x.ab x.b.bs.length x.cb,.slice x.al x.b.ls.length x.cl,.slice x.ats x.b.ts.length x.ct,.int .i64 x.b.lot] 34)
 have MK:=zh (heldBV (w.alloc (.cells #[.int .i64 f,.slice x.aa x.b.ac.length x.ca,.slice x.ai x.b.ic.length x.ci,.slice x.ab x.b.bs.length x.cb,.slice x.al x.b.ls.length x.cl,.slice x.ats x.b.ts.length x.ct,.int .i64 x.b.lot] 34)) base x (h.step b1) hs)
 have C1:=zh (SvV.made x (Below.refl _ w) f 34)
 have BD:=(e_bd hs).2.2.2.2.1
 have tn:¬e5 x.b<0:=by omega
 clear h hs b1 BD
 have c0:=(zu C1).f
 have c1:=(zu C1).c0
 have c2:=(zu C1).c1
 have c3:=(zu C1).c2
 have c4:=(zu C1).c3
 have c5:=(zu C1).c4
 have c6:=(zu C1).c5
 go_enter Tryz.func12,Tryz.ntmps12
 go_wp2_with fail
 refine(zu MK).mono ?_
 rintro e u ⟨rfl,bb⟩
 have B2:=zh ((zu C1).b.trans (bb.mono (zu C1).b.size))
 clear bb
 go_wp2
 go_ret
 exact⟨rfl,zu B2⟩
end LoadH16
namespace LawX16
open Fil14 OpensF14 DiskH14 DkH14 SDk14 SOk14 SRd14 SCom14 Law14 BMem Bks BHelp BkEq BMemV13 VB13 LawR13
structure Kv(W:World)(g:Nat)(f:Int)(x:Ix):Prop where
 f:W.cell? ⟨g,0,none⟩=some (.int .i64 f)
 c0:W.cell? ⟨g,1,none⟩=some (.slice x.aa x.b.ac.length x.ca)
 c1:W.cell? ⟨g,2,none⟩=some (.slice x.ai x.b.ic.length x.ci)
 c2:W.cell? ⟨g,3,none⟩=some (.slice x.ab x.b.bs.length x.cb)
 c3:W.cell? ⟨g,4,none⟩=some (.slice x.al x.b.ls.length x.cl)
 c4:W.cell? ⟨g,5,none⟩=some (.slice x.ats x.b.ts.length x.ct)
 c5:W.cell? ⟨g,6,none⟩=some (.int .i64 x.b.lot)
 lt:g<W.heap.size
theorem Kv.made(W:World)(f:Int)(x:Ix)(e:TypeId):Kv (W.alloc (.cells #[.int .i64 f,.slice x.aa x.b.ac.length x.ca,.slice x.ai x.b.ic.length x.ci,.slice x.ab x.b.bs.length x.cb,.slice x.al x.b.ls.length x.cl,.slice x.ats x.b.ts.length x.ct,.int .i64 x.b.lot] e)) W.heap.size f x:=⟨by simp,by simp,by simp,by simp,by simp,by simp,by simp,by simp⟩
theorem Kv.of{W W':World}{g:Nat}{f:Int}{x:Ix}(h:Kv W g f x)(e:W'.heap[g]?=W.heap[g]?)(s:W.heap.size≤W'.heap.size):Kv W' g f x:=
 ⟨(World.cell?_of_block (w:=W) e).trans h.f,(World.cell?_of_block (w:=W) e).trans h.c0,(World.cell?_of_block (w:=W) e).trans h.c1,(World.cell?_of_block (w:=W) e).trans h.c2,(World.cell?_of_block (w:=W) e).trans h.c3,(World.cell?_of_block (w:=W) e).trans h.c4,(World.cell?_of_block (w:=W) e).trans h.c5,Nat.lt_of_lt_of_le h.lt s⟩
theorem Kv.step{W W':World}{g:Nat}{f:Int}{x:Ix}(h:Kv W g f x)(k:Below W.heap.size W W'):Kv W' g f x:=h.of (k.block g h.lt) k.size
theorem Kv.low{W W':World}{g B:Nat}{f:Int}{x:Ix}(h:Kv W g f x)(k:Below B W W')(hg:g<B):Kv W' g f x:=h.of (k.block g hg) k.size
theorem ownV_turnD{W W':World}{base:Nat}{x:Ix}{y:Dx}(h:OwV W base x)(k:TurnD y W W')(n:∀g,base≤g→some g≠(Value.slice y.a y.ps.length y.c).ownBlock):OwV W' base x:=
 have q:∀{e:TypeId} {m:Nat} {v:Value} {l:Nat} {vs:List Value},W.ownsRow base e m v l vs→W'.ownsRow base e m v l vs:=fun o=>by
  refine⟨o.1,?_⟩
  rcases o.2 with h1|⟨g,c,cur,h1,h2,h3,h4⟩
  ·exact .inl h1
  ·have lg:=World.ownsRow.lt o g (by rw[h1];rfl)
   exact .inr ⟨g,c,cur,h1,h2,(k.block g lg.2 (n _ lg.1)).trans h3,h4⟩
 ⟨q h.oa,q h.oi,q h.ob,q h.ol,q h.ot⟩
def LoadOwn(r:(Int×Bk)×Bool)(w:World)(e:Ending)(w':World):Prop:=∃y:Ix,y.b=r.1.2∧e= .returned (.tuple #[.agg #[.int .i64 r.1.1,.slice y.aa y.b.ac.length y.ca,.slice y.ai y.b.ic.length y.ci,.slice y.ab y.b.bs.length y.cb,.slice y.al y.b.ls.length y.cl,.slice y.ats y.b.ts.length y.ct,.int .i64 y.b.lot],.bool r.2])∧OwV w' w.heap.size y∧Below w.heap.size w w'
end LawX16
namespace SPut11
open SBytes
open ByteH (Own At)
theorem own_of_row{w:World}{base n n':Nat}{v:Value}{vs:List Value}{xs:List Int}(h:w.ownsRow base 5 1 v n vs)(hn:n=n')(e:vs=xs.map (Value.int .u8))(hv:¬v= .slice none 0 0):
  ∃g c,v= .slice (some ⟨g,0,none⟩) n' c∧Own w base g n' c xs:=by
 subst hn e
 have h':=h
 rcases h.2 with⟨h1,_⟩|⟨g,c,cur,rfl,_⟩
 ·exact absurd h1 hv
 ·exact⟨g,c,rfl,h'⟩
theorem lit0(w:World)(base:Nat){g:Nat}(hb:base≤w.heap.size)(hg:g=w.heap.size):Own (w.alloc (.cells #[] 5)) base g 0 0 []:=by
 subst hg
 exact World.ownsRow_lit w #[] 0 hb (by decide) rfl
def AtO(w:World)(g o:Nat)(xs:List Int):Prop:=∀i,i<xs.length→w.cell? ⟨g,o+i,none⟩=some (.int .u8 (xs.getD i 0))
theorem AtO.of{w:World}{g:Nat}{xs:List Int}(h:At w g xs):AtO w g 0 xs:=fun i hi=>by rw[Nat.zero_add];exact h i hi
theorem wp_catB(u:World){ops:Array Oper}{rest:List Oper}{o:Oper}{a:Act}{Q:Exit→Act→World→Prop}(hgd:o.guard=none)(s x:Operand)
  (ho:o.op= .call {callee:= .builtin .append,args:= #[s,x],argTypes:= #[49,49]})(base g n cap m:Nat)(xs ys:List Int)(vb off c:Nat)
  (hs:a.eval s= .slice (some ⟨g,0,none⟩) n cap)(hx:a.eval x= .slice (some ⟨vb,off,none⟩) m c)(hown:Own u base g n cap xs)(hl:ys.length=m)(hv:AtO u vb off ys)(hn:n+m≤9223372036854)(hb:base≤u.heap.size)
  (h:∀g' c' w',Own w' base g' (n+m) c' (xs++ys)→u.grownBy w' (some g)→(g'=g∨g'=u.heap.size)→wpList Tryz.prog ops Q rest (a.put o.dst (.slice (some ⟨g',0,none⟩) (n+m) c')) w'):wpList Tryz.prog ops Q (o::rest) a u:=by
 obtain⟨i0,hi,hz0,hz1,hz2⟩:=info_parts ByteH.info8
 refine wpList_append_own_at u hgd s x 49 ho base 5 i0 (.int .u8 0) 1 1 Tryz.underlying49 hi hz0 hz1 hz2 rfl (by decide) _ n _ hs hown ⟨vb,off,none⟩ m c (ys.map (Value.int .u8)) hx (by simp[hl]) (fun j v hj=>by
  have hj':j<ys.length:=by
   have:=(List.getElem?_eq_some_iff.1 hj).1
   simpa using this
  have:=hv j hj'
  rw[Addr.add_lit,this]
  rw[←hj]
  simp[List.getD,hj']) (by intro u hu;obtain⟨y,_,rfl⟩:=List.mem_map.1 hu;simp[Value.oneCell']) (by unfold maxLen;omega) (by omega) hb ?_
 intro v' w' own' gr' nil' loc'
 obtain⟨g',c',rfl,o'⟩:=own_of_row (n':=n+m) (xs:=xs++ys) own' rfl (by simp) (by rw[nil'];simp)
 exact h g' c' w' o' gr' (by simpa[Value.ownBlock] using loc')
theorem one_more(w:World)(o:Obj):Below w.heap.size w (w.alloc o):=(Below.refl _ _).alloc (Nat.le_refl _) _
end SPut11
namespace SPuts11
open SBytes SPut11
open ByteH (Own At)
theorem own_of_rowI{w:World}{base n n':Nat}{v:Value}{vs:List Value}{xs:List Int}(h:w.ownsRow base 3 1 v n vs)(hn:n=n')(e:vs=xs.map (Value.int .i64))(hv:¬v= .slice none 0 0):
  ∃g c,v= .slice (some ⟨g,0,none⟩) n' c∧Ints.Own w base g n' c xs:=by
 subst hn e
 have h':=h
 rcases h.2 with⟨h1,_⟩|⟨g,c,cur,rfl,_⟩
 ·exact absurd h1 hv
 ·exact⟨g,c,rfl,h'⟩
theorem own_allocI{w:World}{base g n cap:Nat}{xs:List Int}(h:Ints.Own w base g n cap xs)(o:Obj):Ints.Own (w.alloc o) base g n cap xs:=World.ownsRow.alloc h o
theorem lit0I(w:World)(base:Nat){g:Nat}(hb:base≤w.heap.size)(hg:g=w.heap.size):Ints.Own (w.alloc (.cells #[] 3)) base g 0 0 []:=by
 subst hg
 exact World.ownsRow_lit w #[] 0 hb (by decide) rfl
theorem wp_appI(u:World){ops:Array Oper}{rest:List Oper}{o:Oper}{a:Act}{Q:Exit→Act→World→Prop}(hgd:o.guard=none)(s x:Operand)
  (ho:o.op= .call {callee:= .builtin .append,args:= #[s,x],argTypes:= #[70,70]})(base g n cap:Nat)(xs:List Int)(vb:Nat)(y:Int)
  (hs:a.eval s= .slice (some ⟨g,0,none⟩) n cap)(hx:a.eval x= .slice (some ⟨vb,0,none⟩) 1 1)(hown:Ints.Own u base g n cap xs)(hv:u.cell? ⟨vb,0,none⟩=some (.int .i64 y))(hn:n≤1048576)(hb:base≤u.heap.size)
  (h:∀g' c' w',Ints.Own w' base g' (n+1) c' (xs++[y])→u.grownBy w' (some g)→(g'=g∨g'=u.heap.size)→wpList Tryz.prog ops Q rest (a.put o.dst (.slice (some ⟨g',0,none⟩) (n+1) c')) w'):wpList Tryz.prog ops Q (o::rest) a u:=by
 obtain⟨i0,hi,hz0,hz1,hz2⟩:=info_parts Ints.info3
 refine wpList_append_own_at u hgd s x 70 ho base 3 i0 (.int .i64 0) 1 8 Tryz.underlying70 hi hz0 hz1 hz2 rfl (by decide) _ n _ hs hown ⟨vb,0,none⟩ 1 1 [.int .i64 y] hx rfl (fun j v hj=>by
  cases j with
  |zero=>
   have e:v= .int .i64 y:=by simpa using hj.symm
   rw[e]
   simpa[Addr.add] using hv
  |succ j=>simp at hj) (by simp[Value.oneCell']) (by unfold maxLen;omega) (by omega) hb ?_
 intro v' w' own' gr' nil' loc'
 obtain⟨g',c',rfl,o'⟩:=own_of_rowI (n':=n+1) (xs:=xs++[y]) own' rfl (by simp) (by rw[nil'];simp)
 exact h g' c' w' o' gr' (by simpa[Value.ownBlock] using loc')
def gets(xs:List Int):Nat→Int→List Int→List Int×Int×Bool
 |0,p,l=>(l,p,true)
 |m+1,p,l=>if(getN xs p).2.2=true then gets xs m (getN xs p).2.1 (l++[(getN xs p).1]) else([],0,false)
def getsN(xs:List Int)(p many:Int):List Int×Int×Bool:=
 if(0≤many∧many≤2000)∧0≤p∧p≤xs.length then gets xs many.toNat p [] else([],0,false)
end SPuts11
namespace SGets11
open SBytes SPut11 SPuts11
theorem l1In_yes(w:World)(x lo hi:Int)(h0:lo≤x)(h1:x≤hi):Calls Tryz.prog 34 #[.int .i64 x,.int .i64 lo,.int .i64 hi] w fun e w'=>e= .returned (.bool true)∧w'=w:=by
 go_enter Tryz.func34,Tryz.ntmps34
 go_wp2
 go_ret
 exact⟨rfl,rfl⟩
theorem l1In_no(w:World)(x lo hi:Int)(h:¬(lo≤x∧x≤hi)):Calls Tryz.prog 34 #[.int .i64 x,.int .i64 lo,.int .i64 hi] w fun e w'=>e= .returned (.bool false)∧w'=w:=by
 by_cases h0:lo≤x
 ·have h1:¬x≤hi:=fun r=>h ⟨h0,r⟩
  clear h
  go_enter Tryz.func34,Tryz.ntmps34
  go_wp2
  go_ret
  exact⟨rfl,rfl⟩
 ·clear h
  go_enter Tryz.func34,Tryz.ntmps34
  go_wp2
  go_ret
  exact⟨rfl,rfl⟩
section
variable {oz:Nat}
theorem sGetNumsO(w:World)(gl cl:Nat)(xs:List Int)(p0 many:Int)(h20:xs.length≤1048576)(hg:gl<w.heap.size)(hr:AtBO w gl oz xs):
  Calls Tryz.prog 65 #[.slice (some ⟨gl,oz,none⟩) xs.length cl,.int .i64 p0,.int .i64 many] w fun e w'=>∃g c,e= .returned (.tuple #[.slice (some ⟨g,0,none⟩) (getsN xs p0 many).1.length c,.int .i64 (getsN xs p0 many).2.1,.bool (getsN xs p0 many).2.2])∧Ints.Own w' w.heap.size g (getsN xs p0 many).1.length c (getsN xs p0 many).1∧Below w.heap.size w w':=by
 have O0:=zh (lit0I w w.heap.size (Nat.le_refl _) rfl)
 have B0:=zh (one_more w (.cells #[] 3))
 have R:=zh hr
 have HG:=zh hg
 clear hr hg
 by_cases m0:0≤many∧many≤2000
 case neg=>
  have e:getsN xs p0 many=([],0,false):=if_neg (fun h=>m0 h.1)
  rw[e]
  have M:=zh m0
  clear e m0
  go_enter Tryz.func65,Tryz.ntmps65
  go_wp2_with fail
  refine(l1In_no _ _ _ _ (zu M)).mono ?_
  rintro e u ⟨rfl,rfl⟩
  go_wp2
  go_ret3
  exact⟨_,0,rfl,zu O0,zu B0⟩
 by_cases q0:0≤p0∧p0≤xs.length
 case neg=>
  have e:getsN xs p0 many=([],0,false):=if_neg (fun h=>q0 h.2)
  rw[e]
  have M:=zh m0
  have Q:=zh q0
  clear e m0 q0
  go_enter Tryz.func65,Tryz.ntmps65
  go_wp2_with fail
  refine(l1In_yes _ _ _ _ (zu M).1 (zu M).2).mono ?_
  rintro e u ⟨rfl,rfl⟩
  go_wp2_with fail
  refine(l1In_no _ _ _ _ (zu Q)).mono ?_
  rintro e u ⟨rfl,rfl⟩
  go_wp2
  go_ret3
  exact⟨_,0,rfl,zu O0,zu B0⟩
 obtain⟨n,rfl⟩:∃n:Nat,many=n:=⟨many.toNat,by omega⟩
 have E0:=zh (show getsN xs p0 n=gets xs n p0 [] from by unfold getsN;rw[if_pos ⟨m0,q0⟩];simp)
 have n2:n≤2000:=by omega
 have M:=zh m0
 have Q:=zh q0
 clear m0 q0
 generalize getsN xs p0 n=r at *
 obtain⟨r0,r1,r2⟩:=r
 go_enter Tryz.func65,Tryz.ntmps65
 go_wp2_with fail
 refine(l1In_yes _ _ _ _ (zu M).1 (zu M).2).mono ?_
 rintro e u ⟨rfl,rfl⟩
 go_wp2_with fail
 refine(l1In_yes _ _ _ _ (zu Q).1 (zu Q).2).mono ?_
 rintro e u ⟨rfl,rfl⟩
 go_wp2
 clear M Q
 go_loopw [1,9,10] (fun a l i wr=>∃(p:Int) (q:List Int) (g c k:Nat),a= .int .i64 p∧l= .slice (some ⟨g,0,none⟩) q.length c∧i= .int .i64 k∧k≤n∧q.length≤k∧Hid ((r0,r1,r2)=gets xs (n-k) p q)∧Hid (Ints.Own wr w.heap.size g q.length c q)∧Hid (Below w.heap.size w wr)) (fun _ _ i _=>n-(intOf i).toNat)
 case atStart=>exact⟨p0,[],w.heap.size,0,0,rfl,rfl,rfl,by omega,by simp,E0,O0,B0⟩
 case round=>
  clear O0 B0 E0
  obtain⟨p,q,g,c,k,rfl,rfl,rfl,hk,ql,HE,HO,HB⟩:=hrel
  have bs:=(zu HB).size
  have og:=(zu HO).lt
  by_cases t:k<n
  ·have NX:=zh (show(r0,r1,r2)=if(getN xs p).2.2=true then gets xs (n-(k+1)) (getN xs p).2.1 (q++[(getN xs p).1]) else([],0,false) from by
    rw[zu HE,show n-k=(n-(k+1))+1 by omega]
    rfl)
   have kn:(k:Int)<n:=by omega
   clear HE
   go_wp2_with fail
   refine(sGetNumO _ gl oz cl xs p h20 (AtBO.below (zu R) (zu HB) (zu HG))).mono ?_
   rintro e u ⟨rfl,rfl⟩
   generalize getN xs p=y at *
   obtain⟨y0,y1,y2⟩:=y
   cases y2 with
   |false=>
    have F:=zu NX
    rw[if_neg (by simp)] at F
    injection F with F0 F
    injection F with F1 F2
    subst F0 F1 F2
    have O5:=zh (lit0I u w.heap.size bs rfl)
    have B5:=zh ((zu HB).alloc bs (.cells #[] 3))
    clear NX
    go_wp2
    go_ret3
    exact⟨_,0,rfl,zu O5,zu B5⟩
   |true=>
    have N1:=zh (show(r0,r1,r2)=gets xs (n-(k+1)) y1 (q++[y0]) from by rw[zu NX,if_pos rfl])
    clear NX
    go_wp2_with (first|(at_builtin;refine wp_appI _ rfl _ _ rfl w.heap.size g q.length c q u.heap.size y0 rfl rfl (own_allocI (zu HO) _) (by simp) (by omega) (by simp;omega) ?_)|go_in)
    intro g5 c5 w5 o5 gr5 loc5
    have O5:=zh o5
    have B5:=zh (((zu HB).alloc (by omega) (.cells #[.int .i64 y0] 3)).grown gr5 (by simp;omega) (fun j hj=>by cases hj;exact og.1))
    clear o5 gr5 loc5
    go_wp2
    go_roundw
    case rel=>exact⟨y1,q++[y0],g5,c5,k+1,rfl,by rw[show(q++[y0]).length=q.length+1 by simp],by go_num,by omega,by simp;omega,N1,zh (by rw[show(q++[y0]).length=q.length+1 by simp];exact zu O5),B5⟩
    case measure=>simp[intOf];omega
  ·have e:k=n:=by omega
   subst e
   have F:=zu HE
   rw[Nat.sub_self] at F
   simp only[gets] at F
   injection F with F0 F
   injection F with F1 F2
   subst F0 F1 F2
   clear HE
   go_wp2
   go_ret3
   exact⟨g,c,rfl,zu HO,zu HB⟩
end
end SGets11
end Go.Proofs.YtagmnociflkhcaaGreatDoor
