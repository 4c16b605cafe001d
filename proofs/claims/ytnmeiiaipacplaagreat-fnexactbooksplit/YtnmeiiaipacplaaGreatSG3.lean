/- Texts of one proof, one behind the other: LotHelp, LotHeld, TradeHelp, TradeHeld, BHelp, BkEq, Opens, Opens3, Opens5, Opens8, OpensB, LawB, BZero, LawQ, LotApp, IPlace5, ICut, Cat5, Concat5, VHelp5, AnyInv. -/
import Derived.Test.YtnmeiiaipacplaaGreatRows
import Derived.Test.YtnmeiiaipacplaaGreatSG1
import Derived.Test.YtnmeiiaipacplaaGreatSG2
import Derived.Deep.RegionHeld3
import Derived.Deep.SlicePairs
import Derived.Lib.SmallJoins
import Derived.Deep.Slices
import Derived.Deep.Strs
import Derived.WalkKit
import Derived.ProofKit
import Derived.Below
import Derived.Maps.AppendAt
import Derived.Deep.LoopGhost
import Derived.BigRegion
import Derived.Deep.AppendLies
import Derived.Lib.AppendZerosOnto
import Derived.Lib.AppendZeros
import Derived.Orders
set_option linter.unusedVariables false
set_option linter.unusedSimpArgs false
open Go.ChangeShapes Go.WideShapes Go.ChangeAt Go.RowKit
set_option maxRecDepth 100000
set_option maxHeartbeats 32000000
namespace Go.Proofs.YtnmeiiaipacplaaGreat
namespace LotHelp
open Tup5
theorem info2:(Tryz.prog.info? 123).map (fun i=>(i.zero,i.size,i.bytes))=some (some (.agg #[.int .i64 0,.int .i64 0,.int .i64 0,.int .i64 0,.int .i64 0]),5,40):=by kernel_rfl
theorem to1(w:World)(x0 x1 x2 x3 x4:Int):Calls Tryz.prog 95 #[.agg #[.int .i64 x0,.int .i64 x1,.int .i64 x2,.int .i64 x3,.int .i64 x4]] w fun e w'=>e= .returned (.agg #[.int .i64 x0,.int .i64 x1,.int .i64 x2,.int .i64 x3,.int .i64 x4])∧Below w.heap.size w w':=by
 go_enter Tryz.func95,Tryz.ntmps95
 go_wp2
 refine bodyPost_ret (v:= .agg #[.int .i64 x0,.int .i64 x1,.int .i64 x2,.int .i64 x3,.int .i64 x4]) (by simp[results,Tryz.results95,go_sem]) rfl ⟨rfl,?_⟩
 exact(((Below.refl _ _).alloc (Nat.le_refl _) _).alloc (by simp) _).alloc (by simp;omega) _
theorem made(n:Nat):(madeCells (Value.agg #[.int .i64 0,.int .i64 0,.int .i64 0,.int .i64 0,.int .i64 0]).cells (n*5)).toList=flat5 (List.replicate n (0,0,0,0,0)):=by
 apply List.ext_getElem?
 intro j
 by_cases hj:j<n*5
 ·have hs:(Value.agg #[Value.int .i64 0,Value.int .i64 0,Value.int .i64 0,Value.int .i64 0,Value.int .i64 0]).cells= #[Value.int .i64 0,Value.int .i64 0,Value.int .i64 0,Value.int .i64 0,Value.int .i64 0]:=rfl
  rw[hs]
  obtain⟨f0,f1,f2,f3,f4⟩:=flat5_get (List.replicate n (0,0,0,0,0)) (j/5) (by simp;omega)
  have hg:(List.replicate n (((0:Int),(0:Int),(0:Int),(0:Int),(0:Int)):T5)).getD (j/5) (0,0,0,0,0)=(0,0,0,0,0):=by simp[List.getD,show j/5<n by omega]
  unfold el5 at f0 f1 f2 f3 f4
  rw[hg] at f0 f1 f2 f3 f4
  rcases(show j%5=0∨j%5=1∨j%5=2∨j%5=3∨j%5=4 by omega) with e|e|e|e|e
  ·rw[show j/5*5=j by omega] at f0
   rw[f0]
   simp[madeCells,hj,e]
  ·rw[show j/5*5+1=j by omega] at f1
   rw[f1]
   simp[madeCells,hj,e]
  ·rw[show j/5*5+2=j by omega] at f2
   rw[f2]
   simp[madeCells,hj,e]
  ·rw[show j/5*5+3=j by omega] at f3
   rw[f3]
   simp[madeCells,hj,e]
  ·rw[show j/5*5+4=j by omega] at f4
   rw[f4]
   simp[madeCells,hj,e]
 ·rw[List.getElem?_eq_none (by simp[madeCells];omega),List.getElem?_eq_none (by rw[flat5_len];simp;omega)]
def part(ps:List T5)(n k:Nat):List T5:=ps.take k++List.replicate (n-k) (0,0,0,0,0)
theorem part_zero(ps:List T5)(n:Nat):part ps n 0=List.replicate n (0,0,0,0,0):=by simp[part]
theorem part_all(ps:List T5)(n:Nat)(h:ps.length=n):part ps n n=ps:=by
 unfold part
 rw[←h];simp
theorem part_step(ps:List T5)(n k:Nat)(h:ps.length=n)(hk:k<n):(((((part ps n k).modify k (fun p=>((el5 ps k).1,p.2.1,p.2.2.1,p.2.2.2.1,p.2.2.2.2))).modify k (fun p=>(p.1,(el5 ps k).2.1,p.2.2.1,p.2.2.2.1,p.2.2.2.2))).modify k (fun p=>(p.1,p.2.1,(el5 ps k).2.2.1,p.2.2.2.1,p.2.2.2.2))).modify k (fun p=>(p.1,p.2.1,p.2.2.1,(el5 ps k).2.2.2.1,p.2.2.2.2))).modify k (fun p=>(p.1,p.2.1,p.2.2.1,p.2.2.2.1,(el5 ps k).2.2.2.2))=part ps n (k+1):=by
 subst h
 unfold part
 apply List.ext_getElem?
 intro j
 have l1:(ps.take k).length=k:=by simp;omega
 have l2:(ps.take (k+1)).length=k+1:=by simp;omega
 rw[List.getElem?_modify,List.getElem?_modify,List.getElem?_modify,List.getElem?_modify,List.getElem?_modify]
 by_cases e:k=j
 ·subst e
  rw[List.getElem?_append_right (by omega),List.getElem?_append_left (by omega),List.getElem?_take,if_pos (by omega),l1]
  simp[List.getD,hk,show 0<ps.length-k by omega]
 ·by_cases l:j<k
  ·rw[List.getElem?_append_left (by omega),List.getElem?_append_left (by omega),List.getElem?_take,List.getElem?_take,if_pos l,if_pos (by omega)]
   simp[e]
  ·rw[List.getElem?_append_right (by omega),List.getElem?_append_right (by omega),l1,l2]
   simp only[List.getElem?_replicate]
   by_cases m:j<ps.length
   ·rw[if_pos (by omega),if_pos (by omega)];simp[e]
   ·rw[if_neg (by omega),if_neg (by omega)];simp[e]
theorem toS(w:World)(a:Option Addr)(len cap:Nat)(ps:List T5)(hl:ps.length=len)(h20:len≤1048576)(hr:Reads5 w a ps):
  Calls Tryz.prog 40 #[.slice a len cap] w fun e w'=>e= .returned (.slice (some ⟨w.heap.size,0,none⟩) len len)∧Own5 123 w' w.heap.size w.heap.size len len ps∧Below w.heap.size w w':=by
 obtain⟨i0,hi,hz0,hz1,hz2⟩:=info_parts info2
 go_enter Tryz.func40,Tryz.ntmps40
 go_wp2_with (at_make;refine wpList_make_full _ rfl _ _ 33 rfl w.heap.size 123 i0 (.agg #[.int .i64 0,.int .i64 0,.int .i64 0,.int .i64 0,.int .i64 0]) 5 Tryz.underlying33 hi hz0 hz1 .i64 .i64 _ _ len rfl rfl rfl rfl (by rw[hz2];omega) (by unfold maxLen;omega) (Nat.le_refl _) ?_;intro w1 hown hgrow)
 rw[made,←part_zero ps] at hown
 have hb:=grownBy_below hgrow
 have hown:Own5 123 w1 w.heap.size w.heap.size len len (part ps len 0):=hown
 clear hgrow
 go_loopw [4] (fun i wr=>∃(k:Nat),k≤len∧i= .int .i64 k∧Own5 123 wr w.heap.size w.heap.size len len (part ps len k)∧Below w.heap.size w wr) (fun i _=>len-(intOf i).toNat)
 case atStart=>exact⟨0,by omega,rfl,hown,hb⟩
 case round=>
  clear hown hb
  obtain⟨k,hk,rfl,hown,hb⟩:=hrel
  by_cases t:k<len
  ·rcases hr with hz|⟨b,off,rfl,hlt,hcell⟩
   ·omega
   have hc0:=(hb.cell (p:=⟨b,off+k*5,none⟩) hlt).trans (hcell k (by omega)).1
   have hc1:=(hb.cell (p:=⟨b,off+k*5+1,none⟩) hlt).trans (hcell k (by omega)).2.1
   have hc2:=(hb.cell (p:=⟨b,off+k*5+2,none⟩) hlt).trans (hcell k (by omega)).2.2.1
   have hc3:=(hb.cell (p:=⟨b,off+k*5+3,none⟩) hlt).trans (hcell k (by omega)).2.2.2.1
   have hc4:=(hb.cell (p:=⟨b,off+k*5+4,none⟩) hlt).trans (hcell k (by omega)).2.2.2.2
   clear hcell
   have HO:=zh hown
   have HB:=zh hb
   clear hown hb
   have PS:=zh (part_step ps len k hl t)
   generalize (el5 ps k).1=x0 at *
   generalize (el5 ps k).2.1=x1 at *
   generalize (el5 ps k).2.2.1=x2 at *
   generalize (el5 ps k).2.2.2.1=x3 at *
   generalize (el5 ps k).2.2.2.2=x4 at *
   go_wp2_with fail
   refine(to1 _ x0 x1 x2 x3 x4).mono ?_
   rintro e w2 ⟨rfl,b2⟩
   have o2:=(zu HO).below b2 (zu HO).lt.2
   have hb2:=(zu HB).trans (b2.mono (zu HB).size)
   clear HO HB b2 hc0 hc1 hc2 hc3 hc4
   have hs0:=o2.set0 k x0
   have hs1:=hs0.1.set1 k x1
   have hs2:=hs1.1.set2 k x2
   have hs3:=hs2.1.set3 k x3
   have hs4:=hs3.1.set4 k x4
   have hd:=o2.at k (by rw[o2.len];exact t)
   have hd0:=hd.1
   have hd1:=hd.2.1
   have hd2:=hd.2.2.1
   have hd3:=hd.2.2.2.1
   have hd4:=hd.2.2.2.2
   have hf0:=o2.free (k*5)
   have hf1:=o2.free (k*5+1)
   have hf2:=o2.free (k*5+2)
   have hf3:=o2.free (k*5+3)
   have hf4:=o2.free (k*5+4)
   have HS:=zh hs4.1
   have HB:=zh (((((hb2.setCell (p:=⟨w.heap.size,k*5,none⟩) (Nat.le_refl _) (.int .i64 x0)).setCell (p:=⟨w.heap.size,k*5+1,none⟩) (Nat.le_refl _) (.int .i64 x1)).setCell (p:=⟨w.heap.size,k*5+2,none⟩) (Nat.le_refl _) (.int .i64 x2)).setCell (p:=⟨w.heap.size,k*5+3,none⟩) (Nat.le_refl _) (.int .i64 x3)).setCell (p:=⟨w.heap.size,k*5+4,none⟩) (Nat.le_refl _) (.int .i64 x4))
   clear hs0 hs1 hs2 hs3 hs4 hd o2 hb2
   go_wp2
   go_roundw
   case rel=>
    have o:=zu HS
    rw[zu PS] at o
    exact⟨k+1,by omega,by go_num,o,zu HB⟩
   case measure=>simp[intOf];omega
  ·obtain rfl:k=len:=by omega
   rw[part_all ps k hl] at hown
   have HO:=zh hown
   have HB:=zh hb
   clear hown hb hr
   go_wp2
   go_ret
   exact⟨rfl,zu HO,zu HB⟩
theorem eq1(w:World)(x0 x1 x2 x3 x4:Int):Calls Tryz.prog 112 #[.agg #[.int .i64 x0,.int .i64 x1,.int .i64 x2,.int .i64 x3,.int .i64 x4],.agg #[.int .i64 x0,.int .i64 x1,.int .i64 x2,.int .i64 x3,.int .i64 x4]] w fun e w'=>e= .returned (.bool true)∧w'=(w.alloc (.cells #[.int .i64 x0,.int .i64 x1,.int .i64 x2,.int .i64 x3,.int .i64 x4] 123)).alloc (.cells #[.int .i64 x0,.int .i64 x1,.int .i64 x2,.int .i64 x3,.int .i64 x4] 123):=by
 go_enter Tryz.func112,Tryz.ntmps112
 go_wp2
 go_ret
 exact⟨rfl,rfl⟩
theorem two_more(w:World)(o p:Obj):Below w.heap.size w ((w.alloc o).alloc p).drew:=(((Below.refl _ _).alloc (Nat.le_refl _) _).alloc (by simp) _).drew
theorem eqS(w:World)(g1 g2 n c1 c2:Nat)(ps:List T5)(hl:ps.length=n)(h20:n≤1048576)(l1:g1<w.heap.size)(l2:g2<w.heap.size)(h1:At5 w g1 ps)(h2:At5 w g2 ps):
  Calls Tryz.prog 54 #[.slice (some ⟨g1,0,none⟩) n c1,.slice (some ⟨g2,0,none⟩) n c2] w fun e w'=>e= .returned (.bool true)∧Below w.heap.size w w':=by
 go_enter Tryz.func54,Tryz.ntmps54
 go_wp2
 go_loopw [5] (fun i wr=>∃(k:Nat),k≤n∧i= .int .i64 k∧At5 wr g1 ps∧At5 wr g2 ps∧Below w.heap.size w wr) (fun i _=>n-(intOf i).toNat)
 case atStart=>exact⟨0,by omega,rfl,h1,h2,Below.refl _ _⟩
 case round=>
  clear h1 h2
  obtain⟨k,hk,rfl,h1,h2,hb⟩:=hrel
  by_cases t:k<n
  ·obtain⟨e0,e1,e2,e3,e4⟩:=h1 k (by omega)
   obtain⟨f0,f1,f2,f3,f4⟩:=h2 k (by omega)
   have s:=hb.size
   have H1:=zh h1
   have H2:=zh h2
   have HB:=zh hb
   clear h1 h2 hb
   generalize (el5 ps k).1=x0 at *
   generalize (el5 ps k).2.1=x1 at *
   generalize (el5 ps k).2.2.1=x2 at *
   generalize (el5 ps k).2.2.2.1=x3 at *
   generalize (el5 ps k).2.2.2.2=x4 at *
   go_wp2_with fail
   go_region_held3 (fun w'=>w'.cell? ⟨g1,k*5,none⟩=some (.int .i64 x0)∧w'.cell? ⟨g2,k*5,none⟩=some (.int .i64 x0)∧w'.cell? ⟨g1,k*5+1,none⟩=some (.int .i64 x1)∧w'.cell? ⟨g2,k*5+1,none⟩=some (.int .i64 x1)∧w'.cell? ⟨g1,k*5+2,none⟩=some (.int .i64 x2)∧w'.cell? ⟨g2,k*5+2,none⟩=some (.int .i64 x2)∧w'.cell? ⟨g1,k*5+3,none⟩=some (.int .i64 x3)∧w'.cell? ⟨g2,k*5+3,none⟩=some (.int .i64 x3)∧w'.cell? ⟨g1,k*5+4,none⟩=some (.int .i64 x4)∧w'.cell? ⟨g2,k*5+4,none⟩=some (.int .i64 x4)) (go_keep)
    (first|(go_at_call 112;refine(eq1 _ _ _ _ _ _).mono ?_;rintro e w2 ⟨rfl,rfl⟩))
   all_goals(go_wp2;go_roundw)
   all_goals first
    |(have b2:=two_more wr (.cells #[.int .i64 x0,.int .i64 x1,.int .i64 x2,.int .i64 x3,.int .i64 x4] 123) (.cells #[.int .i64 x0,.int .i64 x1,.int .i64 x2,.int .i64 x3,.int .i64 x4] 123)
      exact⟨k+1,by omega,by go_num,(zu H1).below b2 (by omega),(zu H2).below b2 (by omega),next (zu HB) b2⟩)
    |(simp[intOf];omega)
  ·have HB:=zh hb
   clear h1 h2 hb
   go_wp2
   go_ret
   exact⟨rfl,zu HB⟩
def marks(s:Int)(n:Nat):List T5:=(List.range n).map fun(i:Nat)=>(s+5*(i:Int),s+5*(i:Int)+1,s+5*(i:Int)+2,s+5*(i:Int)+3,s+5*(i:Int)+4)
theorem marks_len(s:Int)(n:Nat):(marks s n).length=n:=by simp[marks]
theorem marks_getD(s:Int)(n i:Nat)(h:i<n):el5 (marks s n) i=(s+5*(i:Int),s+5*(i:Int)+1,s+5*(i:Int)+2,s+5*(i:Int)+3,s+5*(i:Int)+4):=by simp[marks,List.getD,h]
def marked(s:Int)(ps:List T5)(n j:Nat):List T5:=(marks s n).take j++ps.drop j
theorem marked_zero(s:Int)(ps:List T5)(n:Nat):marked s ps n 0=ps:=by simp[marked]
theorem marked_all(s:Int)(ps:List T5)(n:Nat)(h:ps.length=n):marked s ps n n=marks s n:=by
 unfold marked
 rw[List.take_of_length_le (by rw[marks_len];exact Nat.le_refl _),List.drop_of_length_le (by omega),List.append_nil]
theorem marked_step(s:Int)(ps:List T5)(n j:Nat)(h:ps.length=n)(hj:j<n):(((((marked s ps n j).modify j (fun p=>(s+5*(j:Int),p.2.1,p.2.2.1,p.2.2.2.1,p.2.2.2.2))).modify j (fun p=>(p.1,s+5*(j:Int)+1,p.2.2.1,p.2.2.2.1,p.2.2.2.2))).modify j (fun p=>(p.1,p.2.1,s+5*(j:Int)+1+1,p.2.2.2.1,p.2.2.2.2))).modify j (fun p=>(p.1,p.2.1,p.2.2.1,s+5*(j:Int)+1+1+1,p.2.2.2.2))).modify j (fun p=>(p.1,p.2.1,p.2.2.1,p.2.2.2.1,s+5*(j:Int)+1+1+1+1))=marked s ps n (j+1):=by
 unfold marked
 have l:=marks_len s n
 have g:=marks_getD s n j hj
 have l1:((marks s n).take j).length=j:=by simp;omega
 have l2:((marks s n).take (j+1)).length=j+1:=by simp;omega
 apply List.ext_getElem?
 intro i
 rw[List.getElem?_modify,List.getElem?_modify,List.getElem?_modify,List.getElem?_modify,List.getElem?_modify]
 by_cases e:j=i
 ·subst e
  rw[List.getElem?_append_right (by omega),List.getElem?_append_left (by omega),List.getElem?_take,if_pos (by omega),l1]
  have hg:(marks s n)[j]?=some (s+5*(j:Int),s+5*(j:Int)+1,s+5*(j:Int)+2,s+5*(j:Int)+3,s+5*(j:Int)+4):=by
   rw[←g];simp[List.getD,l,hj]
  rw[hg]
  simp[List.getElem?_drop,h,hj]
  omega
 ·by_cases d:i<j
  ·rw[List.getElem?_append_left (by omega),List.getElem?_append_left (by omega),List.getElem?_take,List.getElem?_take,if_pos d,if_pos (by omega)]
   simp[e]
  ·rw[List.getElem?_append_right (by omega),List.getElem?_append_right (by omega),l1,l2]
   simp only[List.getElem?_drop]
   rw[show j+(i-j)=i by omega,show j+1+(i-(j+1))=i by omega]
   simp[e]
theorem markS(w:World)(base g n cap:Nat)(s:Int)(ps:List T5)(h20:n≤1048576)(s0:0≤s)(s1:s≤100000000)(ho:Own5 123 w base g n cap ps):
  Calls Tryz.prog 59 #[.slice (some ⟨g,0,none⟩) n cap,.int .i64 s] w fun e w'=>e= .returned (.int .i64 (s+5*(n:Int)))∧Own5 123 w' base g n cap (marks s n)∧w.grownBy w' (some g):=by
 have hl:=ho.len
 have ho':Own5 123 w base g n cap (marked s ps n 0):=by rw[marked_zero];exact ho
 clear ho
 go_enter Tryz.func59,Tryz.ntmps59
 go_wp2
 go_loopw [1,5] (fun m i wr=>∃(k:Nat),k≤n∧i= .int .i64 k∧m= .int .i64 (s+5*(k:Int))∧Own5 123 wr base g n cap (marked s ps n k)∧w.grownBy wr (some g)) (fun _ i _=>n-(intOf i).toNat)
 case atStart=>exact⟨0,by omega,rfl,by go_num,ho',World.grownBy.refl _ _⟩
 case round=>
  clear ho'
  obtain⟨k,hk,rfl,rfl,hown,hg⟩:=hrel
  by_cases t:k<n
  ·obtain⟨o0,q0⟩:=hown.set0 k (s+5*(k:Int))
   obtain⟨o1,q1⟩:=o0.set1 k (s+5*(k:Int)+1)
   obtain⟨o2,q2⟩:=o1.set2 k (s+5*(k:Int)+1+1)
   obtain⟨o3,q3⟩:=o2.set3 k (s+5*(k:Int)+1+1+1)
   obtain⟨o4,q4⟩:=o3.set4 k (s+5*(k:Int)+1+1+1+1)
   obtain⟨hd0,hd1,hd2,hd3,hd4⟩:=hown.at k (by rw[Own5.len hown];exact t)
   have hf0:=hown.free (k*5)
   have hf1:=hown.free (k*5+1)
   have hf2:=hown.free (k*5+2)
   have hf3:=hown.free (k*5+3)
   have hf4:=hown.free (k*5+4)
   rw[marked_step s ps n k hl t] at o4
   have HO:=zh o4
   have HG:=zh (grown_trans (grown_trans (grown_trans (grown_trans (grown_trans hg q0) q1) q2) q3) q4)
   clear hown hg o0 q0 o1 q1 o2 q2 o3 q3 o4 q4
   generalize (el5 (marked s ps n k) k).1=z0 at hd0
   generalize (el5 (marked s ps n k) k).2.1=z1 at hd1
   generalize (el5 (marked s ps n k) k).2.2.1=z2 at hd2
   generalize (el5 (marked s ps n k) k).2.2.2.1=z3 at hd3
   generalize (el5 (marked s ps n k) k).2.2.2.2=z4 at hd4
   have r1:IntKind.i64.wrap (s+5*(k:Int)+1)=s+5*(k:Int)+1:=by rw[IntKind.wrap_i64];omega
   have r2:IntKind.i64.wrap (s+5*(k:Int)+1+1)=s+5*(k:Int)+1+1:=by rw[IntKind.wrap_i64];omega
   have r3:IntKind.i64.wrap (s+5*(k:Int)+1+1+1)=s+5*(k:Int)+1+1+1:=by rw[IntKind.wrap_i64];omega
   have r4:IntKind.i64.wrap (s+5*(k:Int)+1+1+1+1)=s+5*(k:Int)+1+1+1+1:=by rw[IntKind.wrap_i64];omega
   have r5:IntKind.i64.wrap (s+5*(k:Int)+1+1+1+1+1)=s+5*(k:Int)+1+1+1+1+1:=by rw[IntKind.wrap_i64];omega
   go_wp2
   go_roundw
   case rel=>exact⟨k+1,by omega,by go_num,by go_num,zu HO,zu HG⟩
   case measure=>simp[intOf];omega
  ·obtain rfl:k=n:=by omega
   rw[marked_all s ps k hl] at hown
   have HO:=zh hown
   have HG:=zh hg
   clear hown hg
   go_wp2
   go_ret
   exact⟨rfl,zu HO,zu HG⟩
theorem sz_yes(a:Option Addr)(len cap:Nat)(l:Int)(w:World)(h:(len:Int)≤l)(hl:l≤1048576):
  Calls Tryz.prog 26 #[.slice a len cap,.int .i64 l] w fun e w'=>e= .returned (.int .i64 (l-(len:Int)))∧w'=w:=by
 have h1:(0:Int)≤l-(len:Int):=by omega
 have h2:wrap64 (l-(len:Int))=l-(len:Int):=by rw[wrap64];omega
 go_enter Tryz.func26,Tryz.ntmps26
 go_wp2
 go_ret
 exact⟨rfl,rfl⟩
theorem sz_no(a:Option Addr)(len cap:Nat)(l:Int)(w:World)(h:¬(len:Int)≤l)(hl:l≤1048576)(h0:0≤l)(hm:len≤9223372036854775807):
  Calls Tryz.prog 26 #[.slice a len cap,.int .i64 l] w fun e w'=>e= .returned (.int .i64 (-1))∧w'=w:=by
 have h1:l-(len:Int)<0:=by omega
 have h2:wrap64 (l-(len:Int))=l-(len:Int):=by rw[wrap64];omega
 go_enter Tryz.func26,Tryz.ntmps26
 go_wp2
 go_ret
 exact⟨rfl,rfl⟩
end LotHelp
namespace LotHeld
open Tup5
open LotHelp (marks marks_len marks_getD)
theorem heldS(w:World)(g n cap:Nat)(s:Int)(h20:n≤1048576)(s0:0≤s)(s1:s≤100000000)(h:At5 w g (marks s n)):
  Calls Tryz.prog 64 #[.slice (some ⟨g,0,none⟩) n cap,.int .i64 s] w fun e w'=>e= .returned (.int .i64 (s+5*(n:Int)))∧w'=w:=by
 go_enter Tryz.func64,Tryz.ntmps64
 go_wp2
 go_loop [1,5] (fun m i=>∃(k:Nat),k≤n∧i= .int .i64 k∧m= .int .i64 (s+5*(k:Int))) (fun _ i=>n-(intOf i).toNat)
 case atStart=>exact⟨0,by omega,rfl,by go_num⟩
 case round=>
  obtain⟨k,hk,rfl,rfl⟩:=hrel
  by_cases t:k<n
  ·obtain⟨e0,e1,e2,e3,e4⟩:=h k (by rw[marks_len];exact t)
   rw[marks_getD s n k t] at e0 e1 e2 e3 e4
   have e2:w.cell? ⟨g,k*5+2,none⟩=some (.int .i64 (s+5*(k:Int)+1+1)):=by rw[e2];simp;omega
   have e3:w.cell? ⟨g,k*5+3,none⟩=some (.int .i64 (s+5*(k:Int)+1+1+1)):=by rw[e3];simp;omega
   have e4:w.cell? ⟨g,k*5+4,none⟩=some (.int .i64 (s+5*(k:Int)+1+1+1+1)):=by rw[e4];simp;omega
   clear h
   go_wp2
   go_round
   case rel=>exact⟨k+1,by omega,by go_num,by go_num⟩
   case measure=>simp[intOf];omega
  ·obtain rfl:k=n:=by omega
   clear h
   go_wp2
   go_ret
   exact⟨rfl,rfl⟩
end LotHeld
namespace TradeHelp
open Tup8
theorem info2:(Tryz.prog.info? 110).map (fun i=>(i.zero,i.size,i.bytes))=some (some (.agg #[.int .i64 0,.int .i64 0,.int .i64 0,.int .i64 0,.int .i64 0,.int .i64 0,.int .i64 0,.int .i64 0]),8,64):=by kernel_rfl
theorem to1(w:World)(x0 x1 x2 x3 x4 x5 x6 x7:Int):Calls Tryz.prog 96 #[.agg #[.int .i64 x0,.int .i64 x1,.int .i64 x2,.int .i64 x3,.int .i64 x4,.int .i64 x5,.int .i64 x6,.int .i64 x7]] w fun e w'=>e= .returned (.agg #[.int .i64 x0,.int .i64 x1,.int .i64 x2,.int .i64 x3,.int .i64 x4,.int .i64 x5,.int .i64 x6,.int .i64 x7])∧Below w.heap.size w w':=by
 go_enter Tryz.func96,Tryz.ntmps96
 go_wp2
 refine bodyPost_ret (v:= .agg #[.int .i64 x0,.int .i64 x1,.int .i64 x2,.int .i64 x3,.int .i64 x4,.int .i64 x5,.int .i64 x6,.int .i64 x7]) (by simp[results,Tryz.results96,go_sem]) rfl ⟨rfl,?_⟩
 exact(((Below.refl _ _).alloc (Nat.le_refl _) _).alloc (by simp) _).alloc (by simp;omega) _
theorem made(n:Nat):(madeCells (Value.agg #[.int .i64 0,.int .i64 0,.int .i64 0,.int .i64 0,.int .i64 0,.int .i64 0,.int .i64 0,.int .i64 0]).cells (n*8)).toList=flat8 (List.replicate n (0,0,0,0,0,0,0,0)):=by
 apply List.ext_getElem?
 intro j
 by_cases hj:j<n*8
 ·have hs:(Value.agg #[Value.int .i64 0,Value.int .i64 0,Value.int .i64 0,Value.int .i64 0,Value.int .i64 0,Value.int .i64 0,Value.int .i64 0,Value.int .i64 0]).cells= #[Value.int .i64 0,Value.int .i64 0,Value.int .i64 0,Value.int .i64 0,Value.int .i64 0,Value.int .i64 0,Value.int .i64 0,Value.int .i64 0]:=rfl
  rw[hs]
  obtain⟨f0,f1,f2,f3,f4,f5,f6,f7⟩:=flat8_get (List.replicate n (0,0,0,0,0,0,0,0)) (j/8) (by simp;omega)
  have hg:(List.replicate n (((0:Int),(0:Int),(0:Int),(0:Int),(0:Int),(0:Int),(0:Int),(0:Int)):T8)).getD (j/8) (0,0,0,0,0,0,0,0)=(0,0,0,0,0,0,0,0):=by simp[List.getD,show j/8<n by omega]
  unfold el8 at f0 f1 f2 f3 f4 f5 f6 f7
  rw[hg] at f0 f1 f2 f3 f4 f5 f6 f7
  rcases(show j%8=0∨j%8=1∨j%8=2∨j%8=3∨j%8=4∨j%8=5∨j%8=6∨j%8=7 by omega) with e|e|e|e|e|e|e|e
  ·rw[show j/8*8=j by omega] at f0
   rw[f0]
   simp[madeCells,hj,e]
  ·rw[show j/8*8+1=j by omega] at f1
   rw[f1]
   simp[madeCells,hj,e]
  ·rw[show j/8*8+2=j by omega] at f2
   rw[f2]
   simp[madeCells,hj,e]
  ·rw[show j/8*8+3=j by omega] at f3
   rw[f3]
   simp[madeCells,hj,e]
  ·rw[show j/8*8+4=j by omega] at f4
   rw[f4]
   simp[madeCells,hj,e]
  ·rw[show j/8*8+5=j by omega] at f5
   rw[f5]
   simp[madeCells,hj,e]
  ·rw[show j/8*8+6=j by omega] at f6
   rw[f6]
   simp[madeCells,hj,e]
  ·rw[show j/8*8+7=j by omega] at f7
   rw[f7]
   simp[madeCells,hj,e]
 ·rw[List.getElem?_eq_none (by simp[madeCells];omega),List.getElem?_eq_none (by rw[flat8_len];simp;omega)]
def part(ps:List T8)(n k:Nat):List T8:=ps.take k++List.replicate (n-k) (0,0,0,0,0,0,0,0)
theorem part_zero(ps:List T8)(n:Nat):part ps n 0=List.replicate n (0,0,0,0,0,0,0,0):=by simp[part]
theorem part_all(ps:List T8)(n:Nat)(h:ps.length=n):part ps n n=ps:=by
 unfold part
 rw[←h];simp
theorem part_step(ps:List T8)(n k:Nat)(h:ps.length=n)(hk:k<n):((((((((part ps n k).modify k (fun p=>((el8 ps k).1,p.2.1,p.2.2.1,p.2.2.2.1,p.2.2.2.2.1,p.2.2.2.2.2.1,p.2.2.2.2.2.2.1,p.2.2.2.2.2.2.2))).modify k (fun p=>(p.1,(el8 ps k).2.1,p.2.2.1,p.2.2.2.1,p.2.2.2.2.1,p.2.2.2.2.2.1,p.2.2.2.2.2.2.1,p.2.2.2.2.2.2.2))).modify k (fun p=>(p.1,p.2.1,(el8 ps k).2.2.1,p.2.2.2.1,p.2.2.2.2.1,p.2.2.2.2.2.1,p.2.2.2.2.2.2.1,p.2.2.2.2.2.2.2))).modify k (fun p=>(p.1,p.2.1,p.2.2.1,(el8 ps k).2.2.2.1,p.2.2.2.2.1,p.2.2.2.2.2.1,p.2.2.2.2.2.2.1,p.2.2.2.2.2.2.2))).modify k (fun p=>(p.1,p.2.1,p.2.2.1,p.2.2.2.1,(el8 ps k).2.2.2.2.1,p.2.2.2.2.2.1,p.2.2.2.2.2.2.1,p.2.2.2.2.2.2.2))).modify k (fun p=>(p.1,p.2.1,p.2.2.1,p.2.2.2.1,p.2.2.2.2.1,(el8 ps k).2.2.2.2.2.1,p.2.2.2.2.2.2.1,p.2.2.2.2.2.2.2))).modify k (fun p=>(p.1,p.2.1,p.2.2.1,p.2.2.2.1,p.2.2.2.2.1,p.2.2.2.2.2.1,(el8 ps k).2.2.2.2.2.2.1,p.2.2.2.2.2.2.2))).modify k (fun p=>(p.1,p.2.1,p.2.2.1,p.2.2.2.1,p.2.2.2.2.1,p.2.2.2.2.2.1,p.2.2.2.2.2.2.1,(el8 ps k).2.2.2.2.2.2.2))=part ps n (k+1):=by
 subst h
 unfold part
 apply List.ext_getElem?
 intro j
 have l1:(ps.take k).length=k:=by simp;omega
 have l2:(ps.take (k+1)).length=k+1:=by simp;omega
 rw[List.getElem?_modify,List.getElem?_modify,List.getElem?_modify,List.getElem?_modify,List.getElem?_modify,List.getElem?_modify,List.getElem?_modify,List.getElem?_modify]
 by_cases e:k=j
 ·subst e
  rw[List.getElem?_append_right (by omega),List.getElem?_append_left (by omega),List.getElem?_take,if_pos (by omega),l1]
  simp[List.getD,hk,show 0<ps.length-k by omega]
 ·by_cases l:j<k
  ·rw[List.getElem?_append_left (by omega),List.getElem?_append_left (by omega),List.getElem?_take,List.getElem?_take,if_pos l,if_pos (by omega)]
   simp[e]
  ·rw[List.getElem?_append_right (by omega),List.getElem?_append_right (by omega),l1,l2]
   simp only[List.getElem?_replicate]
   by_cases m:j<ps.length
   ·rw[if_pos (by omega),if_pos (by omega)];simp[e]
   ·rw[if_neg (by omega),if_neg (by omega)];simp[e]
theorem toS(w:World)(a:Option Addr)(len cap:Nat)(ps:List T8)(hl:ps.length=len)(h20:len≤1048576)(hr:Reads8 w a ps):
  Calls Tryz.prog 41 #[.slice a len cap] w fun e w'=>e= .returned (.slice (some ⟨w.heap.size,0,none⟩) len len)∧Own8 110 w' w.heap.size w.heap.size len len ps∧Below w.heap.size w w':=by
 obtain⟨i0,hi,hz0,hz1,hz2⟩:=info_parts info2
 go_enter Tryz.func41,Tryz.ntmps41
 go_wp2_with (at_make;refine wpList_make_full _ rfl _ _ 34 rfl w.heap.size 110 i0 (.agg #[.int .i64 0,.int .i64 0,.int .i64 0,.int .i64 0,.int .i64 0,.int .i64 0,.int .i64 0,.int .i64 0]) 8 Tryz.underlying34 hi hz0 hz1 .i64 .i64 _ _ len rfl rfl rfl rfl (by rw[hz2];omega) (by unfold maxLen;omega) (Nat.le_refl _) ?_;intro w1 hown hgrow)
 rw[made,←part_zero ps] at hown
 have hb:=grownBy_below hgrow
 have hown:Own8 110 w1 w.heap.size w.heap.size len len (part ps len 0):=hown
 clear hgrow
 go_loopw [4] (fun i wr=>∃(k:Nat),k≤len∧i= .int .i64 k∧Own8 110 wr w.heap.size w.heap.size len len (part ps len k)∧Below w.heap.size w wr) (fun i _=>len-(intOf i).toNat)
 case atStart=>exact⟨0,by omega,rfl,hown,hb⟩
 case round=>
  clear hown hb
  obtain⟨k,hk,rfl,hown,hb⟩:=hrel
  by_cases t:k<len
  ·rcases hr with hz|⟨b,off,rfl,hlt,hcell⟩
   ·omega
   have hc0:=(hb.cell (p:=⟨b,off+k*8,none⟩) hlt).trans (hcell k (by omega)).1
   have hc1:=(hb.cell (p:=⟨b,off+k*8+1,none⟩) hlt).trans (hcell k (by omega)).2.1
   have hc2:=(hb.cell (p:=⟨b,off+k*8+2,none⟩) hlt).trans (hcell k (by omega)).2.2.1
   have hc3:=(hb.cell (p:=⟨b,off+k*8+3,none⟩) hlt).trans (hcell k (by omega)).2.2.2.1
   have hc4:=(hb.cell (p:=⟨b,off+k*8+4,none⟩) hlt).trans (hcell k (by omega)).2.2.2.2.1
   have hc5:=(hb.cell (p:=⟨b,off+k*8+5,none⟩) hlt).trans (hcell k (by omega)).2.2.2.2.2.1
   have hc6:=(hb.cell (p:=⟨b,off+k*8+6,none⟩) hlt).trans (hcell k (by omega)).2.2.2.2.2.2.1
   have hc7:=(hb.cell (p:=⟨b,off+k*8+7,none⟩) hlt).trans (hcell k (by omega)).2.2.2.2.2.2.2
   clear hcell
   have HO:=zh hown
   have HB:=zh hb
   clear hown hb
   have PS:=zh (part_step ps len k hl t)
   generalize (el8 ps k).1=x0 at *
   generalize (el8 ps k).2.1=x1 at *
   generalize (el8 ps k).2.2.1=x2 at *
   generalize (el8 ps k).2.2.2.1=x3 at *
   generalize (el8 ps k).2.2.2.2.1=x4 at *
   generalize (el8 ps k).2.2.2.2.2.1=x5 at *
   generalize (el8 ps k).2.2.2.2.2.2.1=x6 at *
   generalize (el8 ps k).2.2.2.2.2.2.2=x7 at *
   go_wp2_with fail
   refine(to1 _ x0 x1 x2 x3 x4 x5 x6 x7).mono ?_
   rintro e w2 ⟨rfl,b2⟩
   have o2:=(zu HO).below b2 (zu HO).lt.2
   have hb2:=(zu HB).trans (b2.mono (zu HB).size)
   clear HO HB b2 hc0 hc1 hc2 hc3 hc4 hc5 hc6 hc7
   have hs0:=o2.set0 k x0
   have hs1:=hs0.1.set1 k x1
   have hs2:=hs1.1.set2 k x2
   have hs3:=hs2.1.set3 k x3
   have hs4:=hs3.1.set4 k x4
   have hs5:=hs4.1.set5 k x5
   have hs6:=hs5.1.set6 k x6
   have hs7:=hs6.1.set7 k x7
   have hd:=o2.at k (by rw[o2.len];exact t)
   have hd0:=hd.1
   have hd1:=hd.2.1
   have hd2:=hd.2.2.1
   have hd3:=hd.2.2.2.1
   have hd4:=hd.2.2.2.2.1
   have hd5:=hd.2.2.2.2.2.1
   have hd6:=hd.2.2.2.2.2.2.1
   have hd7:=hd.2.2.2.2.2.2.2
   have hf0:=o2.free (k*8)
   have hf1:=o2.free (k*8+1)
   have hf2:=o2.free (k*8+2)
   have hf3:=o2.free (k*8+3)
   have hf4:=o2.free (k*8+4)
   have hf5:=o2.free (k*8+5)
   have hf6:=o2.free (k*8+6)
   have hf7:=o2.free (k*8+7)
   have HS:=zh hs7.1
   have HB:=zh ((((((((hb2.setCell (p:=⟨w.heap.size,k*8,none⟩) (Nat.le_refl _) (.int .i64 x0)).setCell (p:=⟨w.heap.size,k*8+1,none⟩) (Nat.le_refl _) (.int .i64 x1)).setCell (p:=⟨w.heap.size,k*8+2,none⟩) (Nat.le_refl _) (.int .i64 x2)).setCell (p:=⟨w.heap.size,k*8+3,none⟩) (Nat.le_refl _) (.int .i64 x3)).setCell (p:=⟨w.heap.size,k*8+4,none⟩) (Nat.le_refl _) (.int .i64 x4)).setCell (p:=⟨w.heap.size,k*8+5,none⟩) (Nat.le_refl _) (.int .i64 x5)).setCell (p:=⟨w.heap.size,k*8+6,none⟩) (Nat.le_refl _) (.int .i64 x6)).setCell (p:=⟨w.heap.size,k*8+7,none⟩) (Nat.le_refl _) (.int .i64 x7))
   clear hs0 hs1 hs2 hs3 hs4 hs5 hs6 hs7 hd o2 hb2
   go_wp2
   go_roundw
   case rel=>
    have o:=zu HS
    rw[zu PS] at o
    exact⟨k+1,by omega,by go_num,o,zu HB⟩
   case measure=>simp[intOf];omega
  ·obtain rfl:k=len:=by omega
   rw[part_all ps k hl] at hown
   have HO:=zh hown
   have HB:=zh hb
   clear hown hb hr
   go_wp2
   go_ret
   exact⟨rfl,zu HO,zu HB⟩
theorem eq1(w:World)(x0 x1 x2 x3 x4 x5 x6 x7:Int):Calls Tryz.prog 113 #[.agg #[.int .i64 x0,.int .i64 x1,.int .i64 x2,.int .i64 x3,.int .i64 x4,.int .i64 x5,.int .i64 x6,.int .i64 x7],.agg #[.int .i64 x0,.int .i64 x1,.int .i64 x2,.int .i64 x3,.int .i64 x4,.int .i64 x5,.int .i64 x6,.int .i64 x7]] w fun e w'=>e= .returned (.bool true)∧w'=(w.alloc (.cells #[.int .i64 x0,.int .i64 x1,.int .i64 x2,.int .i64 x3,.int .i64 x4,.int .i64 x5,.int .i64 x6,.int .i64 x7] 110)).alloc (.cells #[.int .i64 x0,.int .i64 x1,.int .i64 x2,.int .i64 x3,.int .i64 x4,.int .i64 x5,.int .i64 x6,.int .i64 x7] 110):=by
 go_enter Tryz.func113,Tryz.ntmps113
 go_wp2
 go_ret
 exact⟨rfl,rfl⟩
theorem two_more(w:World)(o p:Obj):Below w.heap.size w ((w.alloc o).alloc p).drew:=(((Below.refl _ _).alloc (Nat.le_refl _) _).alloc (by simp) _).drew
theorem eqS(w:World)(g1 g2 n c1 c2:Nat)(ps:List T8)(hl:ps.length=n)(h20:n≤1048576)(l1:g1<w.heap.size)(l2:g2<w.heap.size)(h1:At8 w g1 ps)(h2:At8 w g2 ps):
  Calls Tryz.prog 55 #[.slice (some ⟨g1,0,none⟩) n c1,.slice (some ⟨g2,0,none⟩) n c2] w fun e w'=>e= .returned (.bool true)∧Below w.heap.size w w':=by
 go_enter Tryz.func55,Tryz.ntmps55
 go_wp2
 go_loopw [5] (fun i wr=>∃(k:Nat),k≤n∧i= .int .i64 k∧At8 wr g1 ps∧At8 wr g2 ps∧Below w.heap.size w wr) (fun i _=>n-(intOf i).toNat)
 case atStart=>exact⟨0,by omega,rfl,h1,h2,Below.refl _ _⟩
 case round=>
  clear h1 h2
  obtain⟨k,hk,rfl,h1,h2,hb⟩:=hrel
  by_cases t:k<n
  ·obtain⟨e0,e1,e2,e3,e4,e5,e6,e7⟩:=h1 k (by omega)
   obtain⟨f0,f1,f2,f3,f4,f5,f6,f7⟩:=h2 k (by omega)
   have s:=hb.size
   have H1:=zh h1
   have H2:=zh h2
   have HB:=zh hb
   clear h1 h2 hb
   generalize (el8 ps k).1=x0 at *
   generalize (el8 ps k).2.1=x1 at *
   generalize (el8 ps k).2.2.1=x2 at *
   generalize (el8 ps k).2.2.2.1=x3 at *
   generalize (el8 ps k).2.2.2.2.1=x4 at *
   generalize (el8 ps k).2.2.2.2.2.1=x5 at *
   generalize (el8 ps k).2.2.2.2.2.2.1=x6 at *
   generalize (el8 ps k).2.2.2.2.2.2.2=x7 at *
   go_wp2_with fail
   go_region_held3 (fun w'=>w'.cell? ⟨g1,k*8,none⟩=some (.int .i64 x0)∧w'.cell? ⟨g2,k*8,none⟩=some (.int .i64 x0)∧w'.cell? ⟨g1,k*8+1,none⟩=some (.int .i64 x1)∧w'.cell? ⟨g2,k*8+1,none⟩=some (.int .i64 x1)∧w'.cell? ⟨g1,k*8+2,none⟩=some (.int .i64 x2)∧w'.cell? ⟨g2,k*8+2,none⟩=some (.int .i64 x2)∧w'.cell? ⟨g1,k*8+3,none⟩=some (.int .i64 x3)∧w'.cell? ⟨g2,k*8+3,none⟩=some (.int .i64 x3)∧w'.cell? ⟨g1,k*8+4,none⟩=some (.int .i64 x4)∧w'.cell? ⟨g2,k*8+4,none⟩=some (.int .i64 x4)∧w'.cell? ⟨g1,k*8+5,none⟩=some (.int .i64 x5)∧w'.cell? ⟨g2,k*8+5,none⟩=some (.int .i64 x5)∧w'.cell? ⟨g1,k*8+6,none⟩=some (.int .i64 x6)∧w'.cell? ⟨g2,k*8+6,none⟩=some (.int .i64 x6)∧w'.cell? ⟨g1,k*8+7,none⟩=some (.int .i64 x7)∧w'.cell? ⟨g2,k*8+7,none⟩=some (.int .i64 x7)) (go_keep)
    (first|(go_at_call 113;refine(eq1 _ _ _ _ _ _ _ _ _).mono ?_;rintro e w2 ⟨rfl,rfl⟩))
   all_goals(go_wp2;go_roundw)
   all_goals first
    |(have b2:=two_more wr (.cells #[.int .i64 x0,.int .i64 x1,.int .i64 x2,.int .i64 x3,.int .i64 x4,.int .i64 x5,.int .i64 x6,.int .i64 x7] 110) (.cells #[.int .i64 x0,.int .i64 x1,.int .i64 x2,.int .i64 x3,.int .i64 x4,.int .i64 x5,.int .i64 x6,.int .i64 x7] 110)
      exact⟨k+1,by omega,by go_num,(zu H1).below b2 (by omega),(zu H2).below b2 (by omega),next (zu HB) b2⟩)
    |(simp[intOf];omega)
  ·have HB:=zh hb
   clear h1 h2 hb
   go_wp2
   go_ret
   exact⟨rfl,zu HB⟩
def marks(s:Int)(n:Nat):List T8:=(List.range n).map fun(i:Nat)=>(s+8*(i:Int),s+8*(i:Int)+1,s+8*(i:Int)+2,s+8*(i:Int)+3,s+8*(i:Int)+4,s+8*(i:Int)+5,s+8*(i:Int)+6,s+8*(i:Int)+7)
theorem marks_len(s:Int)(n:Nat):(marks s n).length=n:=by simp[marks]
theorem marks_getD(s:Int)(n i:Nat)(h:i<n):el8 (marks s n) i=(s+8*(i:Int),s+8*(i:Int)+1,s+8*(i:Int)+2,s+8*(i:Int)+3,s+8*(i:Int)+4,s+8*(i:Int)+5,s+8*(i:Int)+6,s+8*(i:Int)+7):=by simp[marks,List.getD,h]
def marked(s:Int)(ps:List T8)(n j:Nat):List T8:=(marks s n).take j++ps.drop j
theorem marked_zero(s:Int)(ps:List T8)(n:Nat):marked s ps n 0=ps:=by simp[marked]
theorem marked_all(s:Int)(ps:List T8)(n:Nat)(h:ps.length=n):marked s ps n n=marks s n:=by
 unfold marked
 rw[List.take_of_length_le (by rw[marks_len];exact Nat.le_refl _),List.drop_of_length_le (by omega),List.append_nil]
theorem marked_step(s:Int)(ps:List T8)(n j:Nat)(h:ps.length=n)(hj:j<n):((((((((marked s ps n j).modify j (fun p=>(s+8*(j:Int),p.2.1,p.2.2.1,p.2.2.2.1,p.2.2.2.2.1,p.2.2.2.2.2.1,p.2.2.2.2.2.2.1,p.2.2.2.2.2.2.2))).modify j (fun p=>(p.1,s+8*(j:Int)+1,p.2.2.1,p.2.2.2.1,p.2.2.2.2.1,p.2.2.2.2.2.1,p.2.2.2.2.2.2.1,p.2.2.2.2.2.2.2))).modify j (fun p=>(p.1,p.2.1,s+8*(j:Int)+1+1,p.2.2.2.1,p.2.2.2.2.1,p.2.2.2.2.2.1,p.2.2.2.2.2.2.1,p.2.2.2.2.2.2.2))).modify j (fun p=>(p.1,p.2.1,p.2.2.1,s+8*(j:Int)+1+1+1,p.2.2.2.2.1,p.2.2.2.2.2.1,p.2.2.2.2.2.2.1,p.2.2.2.2.2.2.2))).modify j (fun p=>(p.1,p.2.1,p.2.2.1,p.2.2.2.1,s+8*(j:Int)+1+1+1+1,p.2.2.2.2.2.1,p.2.2.2.2.2.2.1,p.2.2.2.2.2.2.2))).modify j (fun p=>(p.1,p.2.1,p.2.2.1,p.2.2.2.1,p.2.2.2.2.1,s+8*(j:Int)+1+1+1+1+1,p.2.2.2.2.2.2.1,p.2.2.2.2.2.2.2))).modify j (fun p=>(p.1,p.2.1,p.2.2.1,p.2.2.2.1,p.2.2.2.2.1,p.2.2.2.2.2.1,s+8*(j:Int)+1+1+1+1+1+1,p.2.2.2.2.2.2.2))).modify j (fun p=>(p.1,p.2.1,p.2.2.1,p.2.2.2.1,p.2.2.2.2.1,p.2.2.2.2.2.1,p.2.2.2.2.2.2.1,s+8*(j:Int)+1+1+1+1+1+1+1))=marked s ps n (j+1):=by
 unfold marked
 have l:=marks_len s n
 have g:=marks_getD s n j hj
 have l1:((marks s n).take j).length=j:=by simp;omega
 have l2:((marks s n).take (j+1)).length=j+1:=by simp;omega
 apply List.ext_getElem?
 intro i
 rw[List.getElem?_modify,List.getElem?_modify,List.getElem?_modify,List.getElem?_modify,List.getElem?_modify,List.getElem?_modify,List.getElem?_modify,List.getElem?_modify]
 by_cases e:j=i
 ·subst e
  rw[List.getElem?_append_right (by omega),List.getElem?_append_left (by omega),List.getElem?_take,if_pos (by omega),l1]
  have hg:(marks s n)[j]?=some (s+8*(j:Int),s+8*(j:Int)+1,s+8*(j:Int)+2,s+8*(j:Int)+3,s+8*(j:Int)+4,s+8*(j:Int)+5,s+8*(j:Int)+6,s+8*(j:Int)+7):=by
   rw[←g];simp[List.getD,l,hj]
  rw[hg]
  simp[List.getElem?_drop,h,hj]
  omega
 ·by_cases d:i<j
  ·rw[List.getElem?_append_left (by omega),List.getElem?_append_left (by omega),List.getElem?_take,List.getElem?_take,if_pos d,if_pos (by omega)]
   simp[e]
  ·rw[List.getElem?_append_right (by omega),List.getElem?_append_right (by omega),l1,l2]
   simp only[List.getElem?_drop]
   rw[show j+(i-j)=i by omega,show j+1+(i-(j+1))=i by omega]
   simp[e]
theorem markS(w:World)(base g n cap:Nat)(s:Int)(ps:List T8)(h20:n≤1048576)(s0:0≤s)(s1:s≤100000000)(ho:Own8 110 w base g n cap ps):
  Calls Tryz.prog 60 #[.slice (some ⟨g,0,none⟩) n cap,.int .i64 s] w fun e w'=>e= .returned (.int .i64 (s+8*(n:Int)))∧Own8 110 w' base g n cap (marks s n)∧w.grownBy w' (some g):=by
 have hl:=ho.len
 have ho':Own8 110 w base g n cap (marked s ps n 0):=by rw[marked_zero];exact ho
 clear ho
 go_enter Tryz.func60,Tryz.ntmps60
 go_wp2
 go_loopw [1,5] (fun m i wr=>∃(k:Nat),k≤n∧i= .int .i64 k∧m= .int .i64 (s+8*(k:Int))∧Own8 110 wr base g n cap (marked s ps n k)∧w.grownBy wr (some g)) (fun _ i _=>n-(intOf i).toNat)
 case atStart=>exact⟨0,by omega,rfl,by go_num,ho',World.grownBy.refl _ _⟩
 case round=>
  clear ho'
  obtain⟨k,hk,rfl,rfl,hown,hg⟩:=hrel
  by_cases t:k<n
  ·obtain⟨o0,q0⟩:=hown.set0 k (s+8*(k:Int))
   obtain⟨o1,q1⟩:=o0.set1 k (s+8*(k:Int)+1)
   obtain⟨o2,q2⟩:=o1.set2 k (s+8*(k:Int)+1+1)
   obtain⟨o3,q3⟩:=o2.set3 k (s+8*(k:Int)+1+1+1)
   obtain⟨o4,q4⟩:=o3.set4 k (s+8*(k:Int)+1+1+1+1)
   obtain⟨o5,q5⟩:=o4.set5 k (s+8*(k:Int)+1+1+1+1+1)
   obtain⟨o6,q6⟩:=o5.set6 k (s+8*(k:Int)+1+1+1+1+1+1)
   obtain⟨o7,q7⟩:=o6.set7 k (s+8*(k:Int)+1+1+1+1+1+1+1)
   obtain⟨hd0,hd1,hd2,hd3,hd4,hd5,hd6,hd7⟩:=hown.at k (by rw[Own8.len hown];exact t)
   have hf0:=hown.free (k*8)
   have hf1:=hown.free (k*8+1)
   have hf2:=hown.free (k*8+2)
   have hf3:=hown.free (k*8+3)
   have hf4:=hown.free (k*8+4)
   have hf5:=hown.free (k*8+5)
   have hf6:=hown.free (k*8+6)
   have hf7:=hown.free (k*8+7)
   rw[marked_step s ps n k hl t] at o7
   have HO:=zh o7
   have HG:=zh (grown_trans (grown_trans (grown_trans (grown_trans (grown_trans (grown_trans (grown_trans (grown_trans hg q0) q1) q2) q3) q4) q5) q6) q7)
   clear hown hg o0 q0 o1 q1 o2 q2 o3 q3 o4 q4 o5 q5 o6 q6 o7 q7
   generalize (el8 (marked s ps n k) k).1=z0 at hd0
   generalize (el8 (marked s ps n k) k).2.1=z1 at hd1
   generalize (el8 (marked s ps n k) k).2.2.1=z2 at hd2
   generalize (el8 (marked s ps n k) k).2.2.2.1=z3 at hd3
   generalize (el8 (marked s ps n k) k).2.2.2.2.1=z4 at hd4
   generalize (el8 (marked s ps n k) k).2.2.2.2.2.1=z5 at hd5
   generalize (el8 (marked s ps n k) k).2.2.2.2.2.2.1=z6 at hd6
   generalize (el8 (marked s ps n k) k).2.2.2.2.2.2.2=z7 at hd7
   have r1:IntKind.i64.wrap (s+8*(k:Int)+1)=s+8*(k:Int)+1:=by rw[IntKind.wrap_i64];omega
   have r2:IntKind.i64.wrap (s+8*(k:Int)+1+1)=s+8*(k:Int)+1+1:=by rw[IntKind.wrap_i64];omega
   have r3:IntKind.i64.wrap (s+8*(k:Int)+1+1+1)=s+8*(k:Int)+1+1+1:=by rw[IntKind.wrap_i64];omega
   have r4:IntKind.i64.wrap (s+8*(k:Int)+1+1+1+1)=s+8*(k:Int)+1+1+1+1:=by rw[IntKind.wrap_i64];omega
   have r5:IntKind.i64.wrap (s+8*(k:Int)+1+1+1+1+1)=s+8*(k:Int)+1+1+1+1+1:=by rw[IntKind.wrap_i64];omega
   have r6:IntKind.i64.wrap (s+8*(k:Int)+1+1+1+1+1+1)=s+8*(k:Int)+1+1+1+1+1+1:=by rw[IntKind.wrap_i64];omega
   have r7:IntKind.i64.wrap (s+8*(k:Int)+1+1+1+1+1+1+1)=s+8*(k:Int)+1+1+1+1+1+1+1:=by rw[IntKind.wrap_i64];omega
   have r8:IntKind.i64.wrap (s+8*(k:Int)+1+1+1+1+1+1+1+1)=s+8*(k:Int)+1+1+1+1+1+1+1+1:=by rw[IntKind.wrap_i64];omega
   go_wp2
   go_roundw
   case rel=>exact⟨k+1,by omega,by go_num,by go_num,zu HO,zu HG⟩
   case measure=>simp[intOf];omega
  ·obtain rfl:k=n:=by omega
   rw[marked_all s ps k hl] at hown
   have HO:=zh hown
   have HG:=zh hg
   clear hown hg
   go_wp2
   go_ret
   exact⟨rfl,zu HO,zu HG⟩
theorem sz_yes(a:Option Addr)(len cap:Nat)(l:Int)(w:World)(h:(len:Int)≤l)(hl:l≤1048576):
  Calls Tryz.prog 27 #[.slice a len cap,.int .i64 l] w fun e w'=>e= .returned (.int .i64 (l-(len:Int)))∧w'=w:=by
 have h1:(0:Int)≤l-(len:Int):=by omega
 have h2:wrap64 (l-(len:Int))=l-(len:Int):=by rw[wrap64];omega
 go_enter Tryz.func27,Tryz.ntmps27
 go_wp2
 go_ret
 exact⟨rfl,rfl⟩
theorem sz_no(a:Option Addr)(len cap:Nat)(l:Int)(w:World)(h:¬(len:Int)≤l)(hl:l≤1048576)(h0:0≤l)(hm:len≤9223372036854775807):
  Calls Tryz.prog 27 #[.slice a len cap,.int .i64 l] w fun e w'=>e= .returned (.int .i64 (-1))∧w'=w:=by
 have h1:l-(len:Int)<0:=by omega
 have h2:wrap64 (l-(len:Int))=l-(len:Int):=by rw[wrap64];omega
 go_enter Tryz.func27,Tryz.ntmps27
 go_wp2
 go_ret
 exact⟨rfl,rfl⟩
end TradeHelp
namespace TradeHeld
open Tup8
open TradeHelp (marks marks_len marks_getD)
theorem heldS(w:World)(g n cap:Nat)(s:Int)(h20:n≤1048576)(s0:0≤s)(s1:s≤100000000)(h:At8 w g (marks s n)):
  Calls Tryz.prog 65 #[.slice (some ⟨g,0,none⟩) n cap,.int .i64 s] w fun e w'=>e= .returned (.int .i64 (s+8*(n:Int)))∧w'=w:=by
 go_enter Tryz.func65,Tryz.ntmps65
 go_wp2
 go_loop [1,5] (fun m i=>∃(k:Nat),k≤n∧i= .int .i64 k∧m= .int .i64 (s+8*(k:Int))) (fun _ i=>n-(intOf i).toNat)
 case atStart=>exact⟨0,by omega,rfl,by go_num⟩
 case round=>
  obtain⟨k,hk,rfl,rfl⟩:=hrel
  by_cases t:k<n
  ·obtain⟨e0,e1,e2,e3,e4,e5,e6,e7⟩:=h k (by rw[marks_len];exact t)
   rw[marks_getD s n k t] at e0 e1 e2 e3 e4 e5 e6 e7
   have e2:w.cell? ⟨g,k*8+2,none⟩=some (.int .i64 (s+8*(k:Int)+1+1)):=by rw[e2];simp;omega
   have e3:w.cell? ⟨g,k*8+3,none⟩=some (.int .i64 (s+8*(k:Int)+1+1+1)):=by rw[e3];simp;omega
   have e4:w.cell? ⟨g,k*8+4,none⟩=some (.int .i64 (s+8*(k:Int)+1+1+1+1)):=by rw[e4];simp;omega
   have e5:w.cell? ⟨g,k*8+5,none⟩=some (.int .i64 (s+8*(k:Int)+1+1+1+1+1)):=by rw[e5];simp;omega
   have e6:w.cell? ⟨g,k*8+6,none⟩=some (.int .i64 (s+8*(k:Int)+1+1+1+1+1+1)):=by rw[e6];simp;omega
   have e7:w.cell? ⟨g,k*8+7,none⟩=some (.int .i64 (s+8*(k:Int)+1+1+1+1+1+1+1)):=by rw[e7];simp;omega
   clear h
   go_wp2
   go_round
   case rel=>exact⟨k+1,by omega,by go_num,by go_num⟩
   case measure=>simp[intOf];omega
  ·obtain rfl:k=n:=by omega
   clear h
   go_wp2
   go_ret
   exact⟨rfl,rfl⟩
end TradeHeld
namespace BHelp
open BMem Bks ILists
open IBalsFit (St one_more)
structure Ix where
 aa:Option Addr
 ca:Nat
 ai:Option Addr
 ci:Nat
 ab:Option Addr
 cb:Nat
 al:Option Addr
 cl:Nat
 ats:Option Addr
 ct:Nat
 b:Bk
structure RdI(w:World)(y:Ix):Prop where
 ra:Pairs.Reads w y.aa y.b.ac
 ri:Pairs.Reads w y.ai y.b.ic
 rb:Triples.Reads3 w y.ab y.b.bs
 rl:Tup5.Reads5 w y.al y.b.ls
 rt:Tup8.Reads8 w y.ats y.b.ts
theorem RdI.below{w w':World}{y:Ix}(h:RdI w y)(k:Below w.heap.size w w'):RdI w' y:=
 ⟨h.ra.below k,h.ri.below k,h.rb.below k,h.rl.below k,h.rt.below k⟩
structure ClI(w:World)(g:Nat)(y:Ix):Prop where
 c0:w.cell? ⟨g,0,none⟩=some (.slice y.aa y.b.ac.length y.ca)
 c1:w.cell? ⟨g,1,none⟩=some (.slice y.ai y.b.ic.length y.ci)
 c2:w.cell? ⟨g,2,none⟩=some (.slice y.ab y.b.bs.length y.cb)
 c3:w.cell? ⟨g,3,none⟩=some (.slice y.al y.b.ls.length y.cl)
 c4:w.cell? ⟨g,4,none⟩=some (.slice y.ats y.b.ts.length y.ct)
 c5:w.cell? ⟨g,5,none⟩=some (.int .i64 y.b.lot)
theorem ClI.below{w w':World}{B g:Nat}{y:Ix}(h:ClI w g y)(k:Below B w w')(hg:g<B):ClI w' g y:=
 ⟨(k.cell (p:=⟨g,0,none⟩) hg).trans h.c0,(k.cell (p:=⟨g,1,none⟩) hg).trans h.c1,(k.cell (p:=⟨g,2,none⟩) hg).trans h.c2,(k.cell (p:=⟨g,3,none⟩) hg).trans h.c3,(k.cell (p:=⟨g,4,none⟩) hg).trans h.c4,(k.cell (p:=⟨g,5,none⟩) hg).trans h.c5⟩
theorem boxedI(w:World)(y:Ix)(e:TypeId):ClI (w.alloc (.cells #[.slice y.aa y.b.ac.length y.ca,.slice y.ai y.b.ic.length y.ci,.slice y.ab y.b.bs.length y.cb,.slice y.al y.b.ls.length y.cl,.slice y.ats y.b.ts.length y.ct,.int .i64 y.b.lot] e)) w.heap.size y:=⟨by simp,by simp,by simp,by simp,by simp,by simp⟩
theorem row_block{w w':World}{base:Nat}{e:TypeId}{size:Nat}{g n cap:Nat}{xs:List Value}(h:w.ownsRow base e size (.slice (some ⟨g,0,none⟩) n cap) n xs)(hb:w'.heap[g]?=w.heap[g]?):w'.ownsRow base e size (.slice (some ⟨g,0,none⟩) n cap) n xs:=by
 refine⟨h.1,?_⟩
 rcases h.2 with⟨h1,_⟩|⟨g',c,cur,h1,h2,h3,h4⟩
 ·simp at h1
 ·obtain⟨e,_⟩:g=g'∧cap=c:=by simpa using h1
  subst e
  exact .inr ⟨g,c,cur,h1,h2,hb.trans h3,h4⟩
theorem row_apart{w:World}{base base':Nat}{e e':TypeId}{size size':Nat}{g g' n n' cap cap':Nat}{xs xs':List Value}(h:w.ownsRow base e size (.slice (some ⟨g,0,none⟩) n cap) n xs)(k:w.ownsRow base' e' size' (.slice (some ⟨g',0,none⟩) n' cap') n' xs')(ne:e≠e'):g≠g':=by
 intro eg
 subst eg
 rcases h.2 with⟨h1,_⟩|⟨a,c,cur,h1,h2,h3,_⟩
 ·simp at h1
 ·rcases k.2 with⟨k1,_⟩|⟨a',c',cur',k1,k2,k3,_⟩
  ·simp at k1
  ·obtain⟨e1,_⟩:g=a∧cap=c:=by simpa using h1
   obtain⟨e2,_⟩:g=a'∧cap'=c':=by simpa using k1
   subst e1
   rw[←e2] at k3
   rw[h3] at k3
   simp at k3
   exact ne k3.2
def Up(x:Bx)(N:Nat):Prop:=x.ga<N∧x.gi<N∧x.gb<N∧x.gl<N∧x.gt<N
def Lo(x:Bx)(N:Nat):Prop:=N≤x.ga∧N≤x.gi∧N≤x.gb∧N≤x.gl∧N≤x.gt
theorem ow_up{w:World}{base:Nat}{x:Bx}(h:Ow w base x):Up x w.heap.size:=⟨h.oa.lt.2,h.oi.lt.2,h.ob.lt.2,h.ol.lt.2,h.ot.lt.2⟩
theorem ow_lo{w:World}{base:Nat}{x:Bx}(h:Ow w base x):Lo x base:=⟨h.oa.lt.1,h.oi.lt.1,h.ob.lt.1,h.ol.lt.1,h.ot.lt.1⟩
structure Turn(x:Bx)(w w':World):Prop where
 os:w'.os=w.os
 tape:w'.tape=w.tape
 output:w'.output=w.output
 size:w.heap.size≤w'.heap.size
 block:∀k,k<w.heap.size→k≠x.ga→k≠x.gi→k≠x.gb→k≠x.gl→k≠x.gt→w'.heap[k]?=w.heap[k]?
theorem Turn.refl(x:Bx)(w:World):Turn x w w:=⟨rfl,rfl,rfl,Nat.le_refl _,fun _ _ _ _ _ _ _=>rfl⟩
theorem Turn.grown{x:Bx}{w u v:World}{g:Nat}(h:Turn x w u)(k:u.grownBy v (some g))(hg:g=x.ga∨g=x.gi∨g=x.gb∨g=x.gl∨g=x.gt):Turn x w v:=
 ⟨k.os.trans h.os,k.tape.trans h.tape,k.output.trans h.output,Nat.le_trans h.size k.size,fun j hj a b c d e=>(k.block j (Nat.lt_of_lt_of_le hj h.size) (fun q=>by injection q with q;omega)).trans (h.block j hj a b c d e)⟩
theorem Turn.alloc{x:Bx}{w u:World}(h:Turn x w u)(o:Obj):Turn x w (u.alloc o):=
 ⟨h.os,h.tape,h.output,by have:=h.size;simp;omega,fun j hj a b c d e=>(Below.heap_alloc u o j (Nat.lt_of_lt_of_le hj h.size)).trans (h.block j hj a b c d e)⟩
theorem Turn.below{x:Bx}{w u:World}{B:Nat}(h:Turn x w u)(hB:B≤w.heap.size)(lo:Lo x B):Below B w u:=
 ⟨h.os,h.tape,h.output,h.size,fun k hk=>h.block k (by omega) (by have:=lo.1;omega) (by have:=lo.2.1;omega) (by have:=lo.2.2.1;omega) (by have:=lo.2.2.2.1;omega) (by have:=lo.2.2.2.2;omega)⟩
theorem Turn.ow{x y:Bx}{w u:World}{base:Nat}(h:Turn x w u)(k:Ow w base y)(ap:(∃N,Up x N∧Lo y N)∨∃N,Lo x N∧Up y N):Ow u base y:=by
 have hu:=ow_up k
 have all:∀g,(g=y.ga∨g=y.gi∨g=y.gb∨g=y.gl∨g=y.gt)→u.heap[g]?=w.heap[g]?:=by
  intro g hg
  refine h.block g ?_ ?_ ?_ ?_ ?_ ?_
  ·unfold Up at hu;omega
  all_goals
   rcases ap with⟨N,a,b⟩|⟨N,a,b⟩
   ·unfold Up at a;unfold Lo at b;omega
   ·unfold Lo at a;unfold Up at b;omega
 exact⟨row_block k.oa (all _ (by simp)),row_block k.oi (all _ (by simp)),row_block k.ob (all _ (by simp)),row_block k.ol (all _ (by simp)),row_block k.ot (all _ (by simp))⟩
structure TB(w W:World)(y:Ix)(v0 v1 v2 v3 v4 v5:Value):Prop where
 b:Below w.heap.size w W
 ci:ClI W w.heap.size y
 o:Box W w.heap.size (w.heap.size+1+1) v0 v1 v2 v3 v4 v5
 r:Box W w.heap.size (w.heap.size+1) (.slice none 0 0) (.slice none 0 0) (.slice none 0 0) (.slice none 0 0) (.slice none 0 0) (.int .i64 0)
section
variable {w W W':World} {y:Ix} {v0 v1 v2 v3 v4 v5:Value}
theorem TB.call(h:TB w W y v0 v1 v2 v3 v4 v5)(k:Below W.heap.size W W'):TB w W' y v0 v1 v2 v3 v4 v5:=by
 have l:=h.o.lt
 exact⟨h.b.trans (k.mono h.b.size),h.ci.below k (by omega),h.o.below k (by omega),h.r.below k (by omega)⟩
theorem TB.set0(h:TB w W y v0 v1 v2 v3 v4 v5)(u:Value):TB w (W.setCell ⟨w.heap.size+1+1,0,none⟩ u) y u v1 v2 v3 v4 v5:=by
 obtain⟨b,g⟩:=h.o.set0 u
 have n0:some w.heap.size≠some (w.heap.size+1+1):=fun e=>by injection e;omega
 exact⟨h.b.setCell (by simp;omega) u,⟨g.cell h.ci.c0 n0,g.cell h.ci.c1 n0,g.cell h.ci.c2 n0,g.cell h.ci.c3 n0,g.cell h.ci.c4 n0,g.cell h.ci.c5 n0⟩,b,h.r.kept g (fun e=>by injection e;omega)⟩
theorem TB.set1(h:TB w W y v0 v1 v2 v3 v4 v5)(u:Value):TB w (W.setCell ⟨w.heap.size+1+1,1,none⟩ u) y v0 u v2 v3 v4 v5:=by
 obtain⟨b,g⟩:=h.o.set1 u
 have n0:some w.heap.size≠some (w.heap.size+1+1):=fun e=>by injection e;omega
 exact⟨h.b.setCell (by simp;omega) u,⟨g.cell h.ci.c0 n0,g.cell h.ci.c1 n0,g.cell h.ci.c2 n0,g.cell h.ci.c3 n0,g.cell h.ci.c4 n0,g.cell h.ci.c5 n0⟩,b,h.r.kept g (fun e=>by injection e;omega)⟩
theorem TB.set2(h:TB w W y v0 v1 v2 v3 v4 v5)(u:Value):TB w (W.setCell ⟨w.heap.size+1+1,2,none⟩ u) y v0 v1 u v3 v4 v5:=by
 obtain⟨b,g⟩:=h.o.set2 u
 have n0:some w.heap.size≠some (w.heap.size+1+1):=fun e=>by injection e;omega
 exact⟨h.b.setCell (by simp;omega) u,⟨g.cell h.ci.c0 n0,g.cell h.ci.c1 n0,g.cell h.ci.c2 n0,g.cell h.ci.c3 n0,g.cell h.ci.c4 n0,g.cell h.ci.c5 n0⟩,b,h.r.kept g (fun e=>by injection e;omega)⟩
theorem TB.set3(h:TB w W y v0 v1 v2 v3 v4 v5)(u:Value):TB w (W.setCell ⟨w.heap.size+1+1,3,none⟩ u) y v0 v1 v2 u v4 v5:=by
 obtain⟨b,g⟩:=h.o.set3 u
 have n0:some w.heap.size≠some (w.heap.size+1+1):=fun e=>by injection e;omega
 exact⟨h.b.setCell (by simp;omega) u,⟨g.cell h.ci.c0 n0,g.cell h.ci.c1 n0,g.cell h.ci.c2 n0,g.cell h.ci.c3 n0,g.cell h.ci.c4 n0,g.cell h.ci.c5 n0⟩,b,h.r.kept g (fun e=>by injection e;omega)⟩
theorem TB.set4(h:TB w W y v0 v1 v2 v3 v4 v5)(u:Value):TB w (W.setCell ⟨w.heap.size+1+1,4,none⟩ u) y v0 v1 v2 v3 u v5:=by
 obtain⟨b,g⟩:=h.o.set4 u
 have n0:some w.heap.size≠some (w.heap.size+1+1):=fun e=>by injection e;omega
 exact⟨h.b.setCell (by simp;omega) u,⟨g.cell h.ci.c0 n0,g.cell h.ci.c1 n0,g.cell h.ci.c2 n0,g.cell h.ci.c3 n0,g.cell h.ci.c4 n0,g.cell h.ci.c5 n0⟩,b,h.r.kept g (fun e=>by injection e;omega)⟩
theorem TB.set5(h:TB w W y v0 v1 v2 v3 v4 v5)(u:Value):TB w (W.setCell ⟨w.heap.size+1+1,5,none⟩ u) y v0 v1 v2 v3 v4 u:=by
 obtain⟨b,g⟩:=h.o.set5 u
 have n0:some w.heap.size≠some (w.heap.size+1+1):=fun e=>by injection e;omega
 exact⟨h.b.setCell (by simp;omega) u,⟨g.cell h.ci.c0 n0,g.cell h.ci.c1 n0,g.cell h.ci.c2 n0,g.cell h.ci.c3 n0,g.cell h.ci.c4 n0,g.cell h.ci.c5 n0⟩,b,h.r.kept g (fun e=>by injection e;omega)⟩
end
theorem row_store{w:World}{base:Nat}{e:TypeId}{size:Nat}{g n cap:Nat}{xs:List Value}(h:w.ownsRow base e size (.slice (some ⟨g,0,none⟩) n cap) n xs){a:Addr}(ha:a.block<base)(u:Value):(w.setCell a u).ownsRow base e size (.slice (some ⟨g,0,none⟩) n cap) n xs:=ownsRow_setCell_below h ha u
theorem toAccount(w:World)(a:Option Addr)(len cap:Nat)(ps:List (Int×Int))(hl:ps.length=len)(h20:len≤1048576)(hr:Pairs.Reads w a ps):
  Calls Tryz.prog 37 #[.slice a len cap] w fun e w'=>∃g,e= .returned (.slice (some ⟨g,0,none⟩) len len)∧Pairs.Own 92 w' w.heap.size g len len ps∧Below w.heap.size w w':=
 (AccountHelp.toS w a len cap ps hl h20 hr).mono fun e w' ⟨h1,h2,h3⟩=>⟨_,h1,h2,h3⟩
theorem toInstr(w:World)(a:Option Addr)(len cap:Nat)(ps:List (Int×Int))(hl:ps.length=len)(h20:len≤1048576)(hr:Pairs.Reads w a ps):
  Calls Tryz.prog 38 #[.slice a len cap] w fun e w'=>∃g,e= .returned (.slice (some ⟨g,0,none⟩) len len)∧Pairs.Own 111 w' w.heap.size g len len ps∧Below w.heap.size w w':=
 (InstrHelp.toS w a len cap ps hl h20 hr).mono fun e w' ⟨h1,h2,h3⟩=>⟨_,h1,h2,h3⟩
theorem toBal(w:World)(a:Option Addr)(len cap:Nat)(ps:List Bals.T3)(hl:ps.length=len)(h20:len≤1048576)(hr:Triples.Reads3 w a ps):
  Calls Tryz.prog 39 #[.slice a len cap] w fun e w'=>∃g,e= .returned (.slice (some ⟨g,0,none⟩) len len)∧Triples.Own3 119 w' w.heap.size g len len ps∧Below w.heap.size w w':=
 (BalHelp.toS w a len cap ps hl h20 hr).mono fun e w' ⟨h1,h2,h3⟩=>⟨_,h1,h2,h3⟩
theorem toLot(w:World)(a:Option Addr)(len cap:Nat)(ps:List Tup5.T5)(hl:ps.length=len)(h20:len≤1048576)(hr:Tup5.Reads5 w a ps):
  Calls Tryz.prog 40 #[.slice a len cap] w fun e w'=>∃g,e= .returned (.slice (some ⟨g,0,none⟩) len len)∧Tup5.Own5 123 w' w.heap.size g len len ps∧Below w.heap.size w w':=
 (LotHelp.toS w a len cap ps hl h20 hr).mono fun e w' ⟨h1,h2,h3⟩=>⟨_,h1,h2,h3⟩
theorem toTrade(w:World)(a:Option Addr)(len cap:Nat)(ps:List Tup8.T8)(hl:ps.length=len)(h20:len≤1048576)(hr:Tup8.Reads8 w a ps):
  Calls Tryz.prog 41 #[.slice a len cap] w fun e w'=>∃g,e= .returned (.slice (some ⟨g,0,none⟩) len len)∧Tup8.Own8 110 w' w.heap.size g len len ps∧Below w.heap.size w w':=
 (TradeHelp.toS w a len cap ps hl h20 hr).mono fun e w' ⟨h1,h2,h3⟩=>⟨_,h1,h2,h3⟩
theorem toB(w:World)(y:Ix)(h:RdI w y)(hs:Small y.b):
  Calls Tryz.prog 9 #[.agg #[.slice y.aa y.b.ac.length y.ca,.slice y.ai y.b.ic.length y.ci,.slice y.ab y.b.bs.length y.cb,.slice y.al y.b.ls.length y.cl,.slice y.ats y.b.ts.length y.ct,.int .i64 y.b.lot]] w fun e w'=>∃x:Bx,x.b=y.b∧e= .returned (.agg #[.slice (some ⟨x.ga,0,none⟩) x.b.ac.length x.ca,.slice (some ⟨x.gi,0,none⟩) x.b.ic.length x.ci,.slice (some ⟨x.gb,0,none⟩) x.b.bs.length x.cb,.slice (some ⟨x.gl,0,none⟩) x.b.ls.length x.cl,.slice (some ⟨x.gt,0,none⟩) x.b.ts.length x.ct,.int .i64 x.b.lot])∧Ow w' w.heap.size x∧Below w.heap.size w w':=by
 obtain⟨na,ni,nb,nl,nt⟩:=hs
 have H:=zh h
 have T0:=zh (show TB w (((w.alloc (.cells #[.slice y.aa y.b.ac.length y.ca,.slice y.ai y.b.ic.length y.ci,.slice y.ab y.b.bs.length y.cb,.slice y.al y.b.ls.length y.cl,.slice y.ats y.b.ts.length y.ct,.int .i64 y.b.lot] 28)).alloc (.cells #[.slice none 0 0,.slice none 0 0,.slice none 0 0,.slice none 0 0,.slice none 0 0,.int .i64 0] 36)).alloc (.cells #[.slice none 0 0,.slice none 0 0,.slice none 0 0,.slice none 0 0,.slice none 0 0,.int .i64 0] 36)) y (.slice none 0 0) (.slice none 0 0) (.slice none 0 0) (.slice none 0 0) (.slice none 0 0) (.int .i64 0) from by
  have b2:Below (w.alloc (.cells #[.slice y.aa y.b.ac.length y.ca,.slice y.ai y.b.ic.length y.ci,.slice y.ab y.b.bs.length y.cb,.slice y.al y.b.ls.length y.cl,.slice y.ats y.b.ts.length y.ct,.int .i64 y.b.lot] 28)).heap.size (w.alloc (.cells #[.slice y.aa y.b.ac.length y.ca,.slice y.ai y.b.ic.length y.ci,.slice y.ab y.b.bs.length y.cb,.slice y.al y.b.ls.length y.cl,.slice y.ats y.b.ts.length y.ct,.int .i64 y.b.lot] 28)) (((w.alloc (.cells #[.slice y.aa y.b.ac.length y.ca,.slice y.ai y.b.ic.length y.ci,.slice y.ab y.b.bs.length y.cb,.slice y.al y.b.ls.length y.cl,.slice y.ats y.b.ts.length y.ct,.int .i64 y.b.lot] 28)).alloc (.cells #[.slice none 0 0,.slice none 0 0,.slice none 0 0,.slice none 0 0,.slice none 0 0,.int .i64 0] 36)).alloc (.cells #[.slice none 0 0,.slice none 0 0,.slice none 0 0,.slice none 0 0,.slice none 0 0,.int .i64 0] 36)):=((Below.refl _ _).alloc (Nat.le_refl _) _).alloc (by simp) _
  exact⟨((Below.refl w.heap.size w).alloc (Nat.le_refl _) _).trans (b2.mono (by simp)),(boxedI w y 28).below b2 (by simp),Box.made _ _ _ _ _ _ (by simp;omega) (by simp),(Box.made (w:=w.alloc (.cells #[.slice y.aa y.b.ac.length y.ca,.slice y.ai y.b.ic.length y.ci,.slice y.ab y.b.bs.length y.cb,.slice y.al y.b.ls.length y.cl,.slice y.ats y.b.ts.length y.ct,.int .i64 y.b.lot] 28)) (g:=w.heap.size+1) _ _ _ _ _ _ (by simp) (by simp)).below (one_more _ _) (by simp)⟩)
 clear h
 go_enter Tryz.func9,Tryz.ntmps9
 go_wp2_with fail
 have U0:=T0
 refine(toAccount _ y.aa _ y.ca y.b.ac rfl na ((zu H).below (zu U0).b).ra).mono ?_
 rintro e w1 ⟨g0,rfl,o,bb⟩
 have T1:=zh ((zu U0).call bb)
 have O0:=zh (show Pairs.Own 92 w1 (w.heap.size+3) g0 y.b.ac.length y.b.ac.length y.b.ac from o.rebase (by have:=(zu U0).o.lt;have:=o.lt;omega))
 clear bb o
 have c0:=(zu T1).o.c0
 have d0:=(zu T1).o.free 0
 have e1:=(zu T1).ci.c1
 go_wp2_with fail
 have U1:=zh ((zu T1).set0 (.slice (some ⟨g0,0,none⟩) y.b.ac.length y.b.ac.length))
 replace O0:=zh (row_store (zu O0) (a:=⟨w.heap.size+1+1,0,none⟩) (by simp) (.slice (some ⟨g0,0,none⟩) y.b.ac.length y.b.ac.length))
 refine(toInstr _ y.ai _ y.ci y.b.ic rfl ni ((zu H).below (zu U1).b).ri).mono ?_
 rintro e w2 ⟨g1,rfl,o,bb⟩
 have T2:=zh ((zu U1).call bb)
 have O1:=zh (show Pairs.Own 111 w2 (w.heap.size+3) g1 y.b.ic.length y.b.ic.length y.b.ic from o.rebase (by have:=(zu U1).o.lt;have:=o.lt;omega))
 replace O0:=zh (show Pairs.Own 92 w2 (w.heap.size+3) g0 y.b.ac.length y.b.ac.length y.b.ac from Pairs.Own.below (zu O0) bb (by have:=World.ownsRow.lt (zu O0) g0 rfl;omega))
 clear bb o
 have c1:=(zu T2).o.c1
 have d1:=(zu T2).o.free 1
 have e2:=(zu T2).ci.c2
 go_wp2_with fail
 have U2:=zh ((zu T2).set1 (.slice (some ⟨g1,0,none⟩) y.b.ic.length y.b.ic.length))
 replace O0:=zh (row_store (zu O0) (a:=⟨w.heap.size+1+1,1,none⟩) (by simp) (.slice (some ⟨g1,0,none⟩) y.b.ic.length y.b.ic.length))
 replace O1:=zh (row_store (zu O1) (a:=⟨w.heap.size+1+1,1,none⟩) (by simp) (.slice (some ⟨g1,0,none⟩) y.b.ic.length y.b.ic.length))
 refine(toBal _ y.ab _ y.cb y.b.bs rfl nb ((zu H).below (zu U2).b).rb).mono ?_
 rintro e w3 ⟨g2,rfl,o,bb⟩
 have T3:=zh ((zu U2).call bb)
 have O2:=zh (show Triples.Own3 119 w3 (w.heap.size+3) g2 y.b.bs.length y.b.bs.length y.b.bs from o.rebase (by have:=(zu U2).o.lt;have:=o.lt;omega))
 replace O0:=zh (show Pairs.Own 92 w3 (w.heap.size+3) g0 y.b.ac.length y.b.ac.length y.b.ac from Pairs.Own.below (zu O0) bb (by have:=World.ownsRow.lt (zu O0) g0 rfl;omega))
 replace O1:=zh (show Pairs.Own 111 w3 (w.heap.size+3) g1 y.b.ic.length y.b.ic.length y.b.ic from Pairs.Own.below (zu O1) bb (by have:=World.ownsRow.lt (zu O1) g1 rfl;omega))
 clear bb o
 have c2:=(zu T3).o.c2
 have d2:=(zu T3).o.free 2
 have e3:=(zu T3).ci.c3
 go_wp2_with fail
 have U3:=zh ((zu T3).set2 (.slice (some ⟨g2,0,none⟩) y.b.bs.length y.b.bs.length))
 replace O0:=zh (row_store (zu O0) (a:=⟨w.heap.size+1+1,2,none⟩) (by simp) (.slice (some ⟨g2,0,none⟩) y.b.bs.length y.b.bs.length))
 replace O1:=zh (row_store (zu O1) (a:=⟨w.heap.size+1+1,2,none⟩) (by simp) (.slice (some ⟨g2,0,none⟩) y.b.bs.length y.b.bs.length))
 replace O2:=zh (row_store (zu O2) (a:=⟨w.heap.size+1+1,2,none⟩) (by simp) (.slice (some ⟨g2,0,none⟩) y.b.bs.length y.b.bs.length))
 refine(toLot _ y.al _ y.cl y.b.ls rfl nl ((zu H).below (zu U3).b).rl).mono ?_
 rintro e w4 ⟨g3,rfl,o,bb⟩
 have T4:=zh ((zu U3).call bb)
 have O3:=zh (show Tup5.Own5 123 w4 (w.heap.size+3) g3 y.b.ls.length y.b.ls.length y.b.ls from o.rebase (by have:=(zu U3).o.lt;have:=o.lt;omega))
 replace O0:=zh (show Pairs.Own 92 w4 (w.heap.size+3) g0 y.b.ac.length y.b.ac.length y.b.ac from Pairs.Own.below (zu O0) bb (by have:=World.ownsRow.lt (zu O0) g0 rfl;omega))
 replace O1:=zh (show Pairs.Own 111 w4 (w.heap.size+3) g1 y.b.ic.length y.b.ic.length y.b.ic from Pairs.Own.below (zu O1) bb (by have:=World.ownsRow.lt (zu O1) g1 rfl;omega))
 replace O2:=zh (show Triples.Own3 119 w4 (w.heap.size+3) g2 y.b.bs.length y.b.bs.length y.b.bs from Triples.Own3.below (zu O2) bb (by have:=World.ownsRow.lt (zu O2) g2 rfl;omega))
 clear bb o
 have c3:=(zu T4).o.c3
 have d3:=(zu T4).o.free 3
 have e4:=(zu T4).ci.c4
 go_wp2_with fail
 have U4:=zh ((zu T4).set3 (.slice (some ⟨g3,0,none⟩) y.b.ls.length y.b.ls.length))
 replace O0:=zh (row_store (zu O0) (a:=⟨w.heap.size+1+1,3,none⟩) (by simp) (.slice (some ⟨g3,0,none⟩) y.b.ls.length y.b.ls.length))
 replace O1:=zh (row_store (zu O1) (a:=⟨w.heap.size+1+1,3,none⟩) (by simp) (.slice (some ⟨g3,0,none⟩) y.b.ls.length y.b.ls.length))
 replace O2:=zh (row_store (zu O2) (a:=⟨w.heap.size+1+1,3,none⟩) (by simp) (.slice (some ⟨g3,0,none⟩) y.b.ls.length y.b.ls.length))
 replace O3:=zh (row_store (zu O3) (a:=⟨w.heap.size+1+1,3,none⟩) (by simp) (.slice (some ⟨g3,0,none⟩) y.b.ls.length y.b.ls.length))
 refine(toTrade _ y.ats _ y.ct y.b.ts rfl nt ((zu H).below (zu U4).b).rt).mono ?_
 rintro e w5 ⟨g4,rfl,o,bb⟩
 have T5:=zh ((zu U4).call bb)
 have O4:=zh (show Tup8.Own8 110 w5 (w.heap.size+3) g4 y.b.ts.length y.b.ts.length y.b.ts from o.rebase (by have:=(zu U4).o.lt;have:=o.lt;omega))
 replace O0:=zh (show Pairs.Own 92 w5 (w.heap.size+3) g0 y.b.ac.length y.b.ac.length y.b.ac from Pairs.Own.below (zu O0) bb (by have:=World.ownsRow.lt (zu O0) g0 rfl;omega))
 replace O1:=zh (show Pairs.Own 111 w5 (w.heap.size+3) g1 y.b.ic.length y.b.ic.length y.b.ic from Pairs.Own.below (zu O1) bb (by have:=World.ownsRow.lt (zu O1) g1 rfl;omega))
 replace O2:=zh (show Triples.Own3 119 w5 (w.heap.size+3) g2 y.b.bs.length y.b.bs.length y.b.bs from Triples.Own3.below (zu O2) bb (by have:=World.ownsRow.lt (zu O2) g2 rfl;omega))
 replace O3:=zh (show Tup5.Own5 123 w5 (w.heap.size+3) g3 y.b.ls.length y.b.ls.length y.b.ls from Tup5.Own5.below (zu O3) bb (by have:=World.ownsRow.lt (zu O3) g3 rfl;omega))
 clear bb o
 have c4:=(zu T5).o.c4
 have d4:=(zu T5).o.free 4
 clear c0 c1 c2 c3 d0 d1 d2 d3 e1 e2 e3 e4
 have e5:=(zu T5).ci.c5
 have c0:=(zu T5).o.c0
 have c1:=(zu T5).o.c1
 have c2:=(zu T5).o.c2
 have c3:=(zu T5).o.c3
 have c5:=(zu T5).o.c5
 have d5:=(zu T5).o.free 5
 have r0:=(zu T5).r.c0
 have f0:=(zu T5).r.free 0
 have r1:=(zu T5).r.c1
 have f1:=(zu T5).r.free 1
 have r2:=(zu T5).r.c2
 have f2:=(zu T5).r.free 2
 have r3:=(zu T5).r.c3
 have f3:=(zu T5).r.free 3
 have r4:=(zu T5).r.c4
 have f4:=(zu T5).r.free 4
 have r5:=(zu T5).r.c5
 have f5:=(zu T5).r.free 5
 have B5:=zh (zu T5).b
 go_wp2
 refine bodyPost_ret (v:= .agg #[.slice (some ⟨g0,0,none⟩) y.b.ac.length y.b.ac.length,.slice (some ⟨g1,0,none⟩) y.b.ic.length y.b.ic.length,.slice (some ⟨g2,0,none⟩) y.b.bs.length y.b.bs.length,.slice (some ⟨g3,0,none⟩) y.b.ls.length y.b.ls.length,.slice (some ⟨g4,0,none⟩) y.b.ts.length y.b.ts.length,.int .i64 y.b.lot]) (by simp[results,Tryz.results9,go_sem,r0,r1,r2,r3,r4,r5]) rfl ⟨⟨g0,y.b.ac.length,g1,y.b.ic.length,g2,y.b.bs.length,g3,y.b.ls.length,g4,y.b.ts.length,y.b⟩,rfl,rfl,?_,?_⟩
 ·exact Ow.rebase (base:=w.heap.size+3) ⟨(row_store (row_store (row_store (row_store (row_store (row_store (row_store (row_store (zu O0) (a:=⟨w.heap.size+1+1,4,none⟩) (by simp) _) (a:=⟨w.heap.size+1+1,5,none⟩) (by simp) _) (a:=⟨w.heap.size+1,0,none⟩) (by simp) _) (a:=⟨w.heap.size+1,1,none⟩) (by simp) _) (a:=⟨w.heap.size+1,2,none⟩) (by simp) _) (a:=⟨w.heap.size+1,3,none⟩) (by simp) _) (a:=⟨w.heap.size+1,4,none⟩) (by simp) _) (a:=⟨w.heap.size+1,5,none⟩) (by simp) _),(row_store (row_store (row_store (row_store (row_store (row_store (row_store (row_store (zu O1) (a:=⟨w.heap.size+1+1,4,none⟩) (by simp) _) (a:=⟨w.heap.size+1+1,5,none⟩) (by simp) _) (a:=⟨w.heap.size+1,0,none⟩) (by simp) _) (a:=⟨w.heap.size+1,1,none⟩) (by simp) _) (a:=⟨w.heap.size+1,2,none⟩) (by simp) _) (a:=⟨w.heap.size+1,3,none⟩) (by simp) _) (a:=⟨w.heap.size+1,4,none⟩) (by simp) _) (a:=⟨w.heap.size+1,5,none⟩) (by simp) _),(row_store (row_store (row_store (row_store (row_store (row_store (row_store (row_store (zu O2) (a:=⟨w.heap.size+1+1,4,none⟩) (by simp) _) (a:=⟨w.heap.size+1+1,5,none⟩) (by simp) _) (a:=⟨w.heap.size+1,0,none⟩) (by simp) _) (a:=⟨w.heap.size+1,1,none⟩) (by simp) _) (a:=⟨w.heap.size+1,2,none⟩) (by simp) _) (a:=⟨w.heap.size+1,3,none⟩) (by simp) _) (a:=⟨w.heap.size+1,4,none⟩) (by simp) _) (a:=⟨w.heap.size+1,5,none⟩) (by simp) _),(row_store (row_store (row_store (row_store (row_store (row_store (row_store (row_store (zu O3) (a:=⟨w.heap.size+1+1,4,none⟩) (by simp) _) (a:=⟨w.heap.size+1+1,5,none⟩) (by simp) _) (a:=⟨w.heap.size+1,0,none⟩) (by simp) _) (a:=⟨w.heap.size+1,1,none⟩) (by simp) _) (a:=⟨w.heap.size+1,2,none⟩) (by simp) _) (a:=⟨w.heap.size+1,3,none⟩) (by simp) _) (a:=⟨w.heap.size+1,4,none⟩) (by simp) _) (a:=⟨w.heap.size+1,5,none⟩) (by simp) _),(row_store (row_store (row_store (row_store (row_store (row_store (row_store (row_store (zu O4) (a:=⟨w.heap.size+1+1,4,none⟩) (by simp) _) (a:=⟨w.heap.size+1+1,5,none⟩) (by simp) _) (a:=⟨w.heap.size+1,0,none⟩) (by simp) _) (a:=⟨w.heap.size+1,1,none⟩) (by simp) _) (a:=⟨w.heap.size+1,2,none⟩) (by simp) _) (a:=⟨w.heap.size+1,3,none⟩) (by simp) _) (a:=⟨w.heap.size+1,4,none⟩) (by simp) _) (a:=⟨w.heap.size+1,5,none⟩) (by simp) _)⟩ (by omega)
 ·exact(((((((((zu B5).setCell (p:=⟨w.heap.size+1+1,4,none⟩) (by simp;omega) _).setCell (p:=⟨w.heap.size+1+1,5,none⟩) (by simp;omega) _).setCell (p:=⟨w.heap.size+1,0,none⟩) (by simp) _).setCell (p:=⟨w.heap.size+1,1,none⟩) (by simp) _).setCell (p:=⟨w.heap.size+1,2,none⟩) (by simp) _).setCell (p:=⟨w.heap.size+1,3,none⟩) (by simp) _).setCell (p:=⟨w.heap.size+1,4,none⟩) (by simp) _).setCell (p:=⟨w.heap.size+1,5,none⟩) (by simp) _)
end BHelp
namespace BkEq
open BMem Bks ILists BHelp
open IBalsFit (St one_more)
def Fits(b:Bk):Prop:=b.ac.length≤9223372036854775807∧b.ic.length≤9223372036854775807∧b.bs.length≤9223372036854775807∧b.ls.length≤9223372036854775807∧b.ts.length≤9223372036854775807
theorem szB(w:World)(y:Ix)(hf:Fits y.b):
  Calls Tryz.prog 7 #[.agg #[.slice y.aa y.b.ac.length y.ca,.slice y.ai y.b.ic.length y.ci,.slice y.ab y.b.bs.length y.cb,.slice y.al y.b.ls.length y.cl,.slice y.ats y.b.ts.length y.ct,.int .i64 y.b.lot],.int .i64 1048576] w fun e w'=>∃r,e= .returned (.int .i64 r)∧(r= -1∨(0≤r∧Small y.b))∧Below w.heap.size w w':=by
 obtain⟨fa,fi,fb,fl,ft⟩:=hf
 have B0:=zh ((Below.refl w.heap.size w).alloc (Nat.le_refl _) (.cells #[.slice y.aa y.b.ac.length y.ca,.slice y.ai y.b.ic.length y.ci,.slice y.ab y.b.bs.length y.cb,.slice y.al y.b.ls.length y.cl,.slice y.ats y.b.ts.length y.ct,.int .i64 y.b.lot] 28))
 go_enter Tryz.func7,Tryz.ntmps7
 go_wp2_with fail
 by_cases q0:(y.b.ac.length:Int)≤1048576
 rotate_left
 ·refine(AccountMark.sz_no _ _ _ 1048576 _ q0 (by omega) (by omega) fa).mono ?_
  rintro e u ⟨rfl,rfl⟩
  go_wp2
  go_ret
  exact⟨-1,rfl,.inl rfl,zu B0⟩
 refine(AccountMark.sz_yes _ _ _ 1048576 _ q0 (by omega)).mono ?_
 rintro e u0 ⟨rfl,rfl⟩
 obtain⟨m0,hm0⟩:∃m:Int,Hid (m=1048576-(y.b.ac.length:Int)):=⟨_,rfl⟩
 rw[←zu hm0]
 have M0:0≤m0∧m0≤1048576:=by have:=zu hm0;omega
 have Q0:=zh q0
 clear q0
 go_wp2_with fail
 by_cases q1:(y.b.ic.length:Int)≤m0
 rotate_left
 ·refine(InstrMark.sz_no _ _ _ m0 _ q1 (by omega) (by omega) fi).mono ?_
  rintro e u ⟨rfl,rfl⟩
  go_wp2
  go_ret
  exact⟨-1,rfl,.inl rfl,zu B0⟩
 refine(InstrMark.sz_yes _ _ _ m0 _ q1 (by omega)).mono ?_
 rintro e u1 ⟨rfl,rfl⟩
 obtain⟨m1,hm1⟩:∃m:Int,Hid (m=m0-(y.b.ic.length:Int)):=⟨_,rfl⟩
 rw[←zu hm1]
 have M1:0≤m1∧m1≤1048576:=by have:=zu hm1;omega
 have Q1:=zh q1
 clear q1
 go_wp2_with fail
 by_cases q2:(y.b.bs.length:Int)≤m1
 rotate_left
 ·refine(BalHelp.sz_no _ _ _ m1 _ q2 (by omega) (by omega) fb).mono ?_
  rintro e u ⟨rfl,rfl⟩
  go_wp2
  go_ret
  exact⟨-1,rfl,.inl rfl,zu B0⟩
 refine(BalHelp.sz_yes _ _ _ m1 _ q2 (by omega)).mono ?_
 rintro e u2 ⟨rfl,rfl⟩
 obtain⟨m2,hm2⟩:∃m:Int,Hid (m=m1-(y.b.bs.length:Int)):=⟨_,rfl⟩
 rw[←zu hm2]
 have M2:0≤m2∧m2≤1048576:=by have:=zu hm2;omega
 have Q2:=zh q2
 clear q2
 go_wp2_with fail
 by_cases q3:(y.b.ls.length:Int)≤m2
 rotate_left
 ·refine(LotHelp.sz_no _ _ _ m2 _ q3 (by omega) (by omega) fl).mono ?_
  rintro e u ⟨rfl,rfl⟩
  go_wp2
  go_ret
  exact⟨-1,rfl,.inl rfl,zu B0⟩
 refine(LotHelp.sz_yes _ _ _ m2 _ q3 (by omega)).mono ?_
 rintro e u3 ⟨rfl,rfl⟩
 obtain⟨m3,hm3⟩:∃m:Int,Hid (m=m2-(y.b.ls.length:Int)):=⟨_,rfl⟩
 rw[←zu hm3]
 have M3:0≤m3∧m3≤1048576:=by have:=zu hm3;omega
 have Q3:=zh q3
 clear q3
 go_wp2_with fail
 by_cases q4:(y.b.ts.length:Int)≤m3
 rotate_left
 ·refine(TradeHelp.sz_no _ _ _ m3 _ q4 (by omega) (by omega) ft).mono ?_
  rintro e u ⟨rfl,rfl⟩
  go_wp2
  go_ret
  exact⟨-1,rfl,.inl rfl,zu B0⟩
 refine(TradeHelp.sz_yes _ _ _ m3 _ q4 (by omega)).mono ?_
 rintro e u4 ⟨rfl,rfl⟩
 obtain⟨m4,hm4⟩:∃m:Int,Hid (m=m3-(y.b.ts.length:Int)):=⟨_,rfl⟩
 rw[←zu hm4]
 have M4:0≤m4∧m4≤1048576:=by have:=zu hm4;omega
 have Q4:=zh q4
 clear q4
 have SM:=zh (show Small y.b from by
  have a0:=zu Q0
  have a1:=zu Q1
  have a2:=zu Q2
  have a3:=zu Q3
  have a4:=zu Q4
  exact⟨by omega,by omega,by omega,by omega,by omega⟩)
 go_wp2
 go_ret
 exact⟨m4,rfl,.inr ⟨M4.1,zu SM⟩,zu B0⟩
structure Two(w W:World)(x y:Bx):Prop where
 rx:Rd W x
 ry:Rd W y
 cx:Cl W w.heap.size x
 cy:Cl W (w.heap.size+1) y
 b:Below w.heap.size w W
 s:w.heap.size+1<W.heap.size
theorem Two.step{w W W':World}{x y:Bx}(h:Two w W x y)(k:Below W.heap.size W W'):Two w W' x y:=
 ⟨h.rx.below k,h.ry.below k,h.cx.below k (by have:=h.s;omega),h.cy.below k h.s,h.b.trans (k.mono h.b.size),Nat.lt_of_lt_of_le h.s k.size⟩
theorem Two.start{w:World}{x y:Bx}(hx:Rd w x)(hy:Rd w y)(e:TypeId):Two w ((w.alloc (.cells #[.slice (some ⟨x.ga,0,none⟩) x.b.ac.length x.ca,.slice (some ⟨x.gi,0,none⟩) x.b.ic.length x.ci,.slice (some ⟨x.gb,0,none⟩) x.b.bs.length x.cb,.slice (some ⟨x.gl,0,none⟩) x.b.ls.length x.cl,.slice (some ⟨x.gt,0,none⟩) x.b.ts.length x.ct,.int .i64 x.b.lot] e)).alloc (.cells #[.slice (some ⟨y.ga,0,none⟩) y.b.ac.length y.ca,.slice (some ⟨y.gi,0,none⟩) y.b.ic.length y.ci,.slice (some ⟨y.gb,0,none⟩) y.b.bs.length y.cb,.slice (some ⟨y.gl,0,none⟩) y.b.ls.length y.cl,.slice (some ⟨y.gt,0,none⟩) y.b.ts.length y.ct,.int .i64 y.b.lot] e)) x y:=by
 have c:=boxed (w.alloc (.cells #[.slice (some ⟨x.ga,0,none⟩) x.b.ac.length x.ca,.slice (some ⟨x.gi,0,none⟩) x.b.ic.length x.ci,.slice (some ⟨x.gb,0,none⟩) x.b.bs.length x.cb,.slice (some ⟨x.gl,0,none⟩) x.b.ls.length x.cl,.slice (some ⟨x.gt,0,none⟩) x.b.ts.length x.ct,.int .i64 x.b.lot] e)) y e
 have c':Cl ((w.alloc (.cells #[.slice (some ⟨x.ga,0,none⟩) x.b.ac.length x.ca,.slice (some ⟨x.gi,0,none⟩) x.b.ic.length x.ci,.slice (some ⟨x.gb,0,none⟩) x.b.bs.length x.cb,.slice (some ⟨x.gl,0,none⟩) x.b.ls.length x.cl,.slice (some ⟨x.gt,0,none⟩) x.b.ts.length x.ct,.int .i64 x.b.lot] e)).alloc (.cells #[.slice (some ⟨y.ga,0,none⟩) y.b.ac.length y.ca,.slice (some ⟨y.gi,0,none⟩) y.b.ic.length y.ci,.slice (some ⟨y.gb,0,none⟩) y.b.bs.length y.cb,.slice (some ⟨y.gl,0,none⟩) y.b.ls.length y.cl,.slice (some ⟨y.gt,0,none⟩) y.b.ts.length y.ct,.int .i64 y.b.lot] e)) (w.heap.size+1) y:=by simpa using c
 exact⟨(hx.alloc _).alloc _,(hy.alloc _).alloc _,(boxed w x e).below (one_more _ _) (by simp),c',((Below.refl w.heap.size w).alloc (Nat.le_refl _) _).alloc (by simp) _,by simp⟩
theorem eqB(w:World)(x y:Bx)(hb:y.b=x.b)(hx:Rd w x)(hy:Rd w y):
  Calls Tryz.prog 11 #[.agg #[.slice (some ⟨x.ga,0,none⟩) x.b.ac.length x.ca,.slice (some ⟨x.gi,0,none⟩) x.b.ic.length x.ci,.slice (some ⟨x.gb,0,none⟩) x.b.bs.length x.cb,.slice (some ⟨x.gl,0,none⟩) x.b.ls.length x.cl,.slice (some ⟨x.gt,0,none⟩) x.b.ts.length x.ct,.int .i64 x.b.lot],.agg #[.slice (some ⟨y.ga,0,none⟩) y.b.ac.length y.ca,.slice (some ⟨y.gi,0,none⟩) y.b.ic.length y.ci,.slice (some ⟨y.gb,0,none⟩) y.b.bs.length y.cb,.slice (some ⟨y.gl,0,none⟩) y.b.ls.length y.cl,.slice (some ⟨y.gt,0,none⟩) y.b.ts.length y.ct,.int .i64 y.b.lot]] w fun e w'=>e= .returned (.bool true)∧Below w.heap.size w w':=by
 obtain⟨ga,ca,gi,ci,gb,cb,gl,cl,gt,ct,b⟩:=y
 obtain rfl:b=x.b:=hb
 have T0:=zh (Two.start hx hy 36)
 have na:=hx.na
 have ni:=hx.ni
 have nb:=hx.nb
 have nl:=hx.nl
 have nt:=hx.nt
 clear hx hy
 go_enter Tryz.func11,Tryz.ntmps11
 go_wp2_with fail
 refine(AccountHelp.eqS _ x.ga ga _ x.ca ca x.b.ac rfl na (zu T0).rx.la (zu T0).ry.la (zu T0).rx.ra (zu T0).ry.ra).mono ?_
 rintro e w1 ⟨rfl,bb⟩
 have T1:=zh ((zu T0).step bb)
 clear bb
 have p1:=(zu T1).cx.c1
 have r1:=(zu T1).cy.c1
 go_wp2_with fail
 refine(InstrHelp.eqS _ x.gi gi _ x.ci ci x.b.ic rfl ni (zu T1).rx.li (zu T1).ry.li (zu T1).rx.ri (zu T1).ry.ri).mono ?_
 rintro e w2 ⟨rfl,bb⟩
 have T2:=zh ((zu T1).step bb)
 clear bb
 have p2:=(zu T2).cx.c2
 have r2:=(zu T2).cy.c2
 go_wp2_with fail
 refine(BalHelp.eqS _ x.gb gb _ x.cb cb x.b.bs rfl nb (zu T2).rx.lb (zu T2).ry.lb (zu T2).rx.rb (zu T2).ry.rb).mono ?_
 rintro e w3 ⟨rfl,bb⟩
 have T3:=zh ((zu T2).step bb)
 clear bb
 have p3:=(zu T3).cx.c3
 have r3:=(zu T3).cy.c3
 go_wp2_with fail
 refine(LotHelp.eqS _ x.gl gl _ x.cl cl x.b.ls rfl nl (zu T3).rx.ll (zu T3).ry.ll (zu T3).rx.rl (zu T3).ry.rl).mono ?_
 rintro e w4 ⟨rfl,bb⟩
 have T4:=zh ((zu T3).step bb)
 clear bb
 have p4:=(zu T4).cx.c4
 have r4:=(zu T4).cy.c4
 go_wp2_with fail
 refine(TradeHelp.eqS _ x.gt gt _ x.ct ct x.b.ts rfl nt (zu T4).rx.lt (zu T4).ry.lt (zu T4).rx.rt (zu T4).ry.rt).mono ?_
 rintro e w5 ⟨rfl,bb⟩
 have T5:=zh ((zu T4).step bb)
 clear bb
 have p5:=(zu T5).cx.c5
 have r5:=(zu T5).cy.c5
 go_wp2
 go_ret
 exact⟨rfl,(zu T5).b⟩
def e1(b:Bk):Int:=1+2*(b.ac.length:Int)
def e2(b:Bk):Int:=e1 b+2*(b.ic.length:Int)
def e3(b:Bk):Int:=e2 b+3*(b.bs.length:Int)
def e4(b:Bk):Int:=e3 b+5*(b.ls.length:Int)
def e5(b:Bk):Int:=e4 b+8*(b.ts.length:Int)
theorem e_bd{b:Bk}(h:Small b):(1≤e1 b∧e1 b≤100000000)∧(1≤e2 b∧e2 b≤100000000)∧(1≤e3 b∧e3 b≤100000000)∧(1≤e4 b∧e4 b≤100000000)∧(1≤e5 b∧e5 b≤100000000):=by
 obtain⟨h1,h2,h3,h4,h5⟩:=h
 unfold e5 e4 e3 e2 e1
 omega
structure OwM(w:World)(base:Nat)(x:Bx):Prop where
 oa:Pairs.Own 92 w base x.ga x.b.ac.length x.ca (AccountMark.marks 1 x.b.ac.length)
 oi:Pairs.Own 111 w base x.gi x.b.ic.length x.ci (InstrMark.marks (e1 x.b) x.b.ic.length)
 ob:Triples.Own3 119 w base x.gb x.b.bs.length x.cb (BalHelp.marks (e2 x.b) x.b.bs.length)
 ol:Tup5.Own5 123 w base x.gl x.b.ls.length x.cl (LotHelp.marks (e3 x.b) x.b.ls.length)
 ot:Tup8.Own8 110 w base x.gt x.b.ts.length x.ct (TradeHelp.marks (e4 x.b) x.b.ts.length)
theorem OwM.below{w w':World}{base:Nat}{x:Bx}(h:OwM w base x)(k:Below w.heap.size w w'):OwM w' base x:=
 ⟨h.oa.below k h.oa.lt.2,h.oi.below k h.oi.lt.2,h.ob.below k h.ob.lt.2,h.ol.below k h.ol.lt.2,h.ot.below k h.ot.lt.2⟩
theorem markB(w:World)(base:Nat)(x:Bx)(h:Ow w base x)(hs:Small x.b):
  Calls Tryz.prog 12 #[.agg #[.slice (some ⟨x.ga,0,none⟩) x.b.ac.length x.ca,.slice (some ⟨x.gi,0,none⟩) x.b.ic.length x.ci,.slice (some ⟨x.gb,0,none⟩) x.b.bs.length x.cb,.slice (some ⟨x.gl,0,none⟩) x.b.ls.length x.cl,.slice (some ⟨x.gt,0,none⟩) x.b.ts.length x.ct,.int .i64 x.b.lot],.int .i64 1] w fun e w'=>e= .returned (.int .i64 (e5 x.b))∧OwM w' base x∧Turn x w w':=by
 obtain⟨⟨l1,u1⟩,⟨l2,u2⟩,⟨l3,u3⟩,⟨l4,u4⟩,⟨l5,u5⟩⟩:=e_bd hs
 obtain⟨na,ni,nb,nl,nt⟩:=hs
 have xai:x.ga≠x.gi:=row_apart h.oa h.oi (by decide)
 have xab:x.ga≠x.gb:=row_apart h.oa h.ob (by decide)
 have xal:x.ga≠x.gl:=row_apart h.oa h.ol (by decide)
 have xat:x.ga≠x.gt:=row_apart h.oa h.ot (by decide)
 have xib:x.gi≠x.gb:=row_apart h.oi h.ob (by decide)
 have xil:x.gi≠x.gl:=row_apart h.oi h.ol (by decide)
 have xit:x.gi≠x.gt:=row_apart h.oi h.ot (by decide)
 have xbl:x.gb≠x.gl:=row_apart h.ob h.ol (by decide)
 have xbt:x.gb≠x.gt:=row_apart h.ob h.ot (by decide)
 have xlt:x.gl≠x.gt:=row_apart h.ol h.ot (by decide)
 have za:w.heap.size≠x.ga:=by have:=h.oa.lt;omega
 have Oa:=zh (h.oa.alloc (.cells #[.slice (some ⟨x.ga,0,none⟩) x.b.ac.length x.ca,.slice (some ⟨x.gi,0,none⟩) x.b.ic.length x.ci,.slice (some ⟨x.gb,0,none⟩) x.b.bs.length x.cb,.slice (some ⟨x.gl,0,none⟩) x.b.ls.length x.cl,.slice (some ⟨x.gt,0,none⟩) x.b.ts.length x.ct,.int .i64 x.b.lot] 36))
 have zi:w.heap.size≠x.gi:=by have:=h.oi.lt;omega
 have Oi:=zh (h.oi.alloc (.cells #[.slice (some ⟨x.ga,0,none⟩) x.b.ac.length x.ca,.slice (some ⟨x.gi,0,none⟩) x.b.ic.length x.ci,.slice (some ⟨x.gb,0,none⟩) x.b.bs.length x.cb,.slice (some ⟨x.gl,0,none⟩) x.b.ls.length x.cl,.slice (some ⟨x.gt,0,none⟩) x.b.ts.length x.ct,.int .i64 x.b.lot] 36))
 have zb:w.heap.size≠x.gb:=by have:=h.ob.lt;omega
 have Ob:=zh (h.ob.alloc (.cells #[.slice (some ⟨x.ga,0,none⟩) x.b.ac.length x.ca,.slice (some ⟨x.gi,0,none⟩) x.b.ic.length x.ci,.slice (some ⟨x.gb,0,none⟩) x.b.bs.length x.cb,.slice (some ⟨x.gl,0,none⟩) x.b.ls.length x.cl,.slice (some ⟨x.gt,0,none⟩) x.b.ts.length x.ct,.int .i64 x.b.lot] 36))
 have zl:w.heap.size≠x.gl:=by have:=h.ol.lt;omega
 have Ol:=zh (h.ol.alloc (.cells #[.slice (some ⟨x.ga,0,none⟩) x.b.ac.length x.ca,.slice (some ⟨x.gi,0,none⟩) x.b.ic.length x.ci,.slice (some ⟨x.gb,0,none⟩) x.b.bs.length x.cb,.slice (some ⟨x.gl,0,none⟩) x.b.ls.length x.cl,.slice (some ⟨x.gt,0,none⟩) x.b.ts.length x.ct,.int .i64 x.b.lot] 36))
 have zt:w.heap.size≠x.gt:=by have:=h.ot.lt;omega
 have Ot:=zh (h.ot.alloc (.cells #[.slice (some ⟨x.ga,0,none⟩) x.b.ac.length x.ca,.slice (some ⟨x.gi,0,none⟩) x.b.ic.length x.ci,.slice (some ⟨x.gb,0,none⟩) x.b.bs.length x.cb,.slice (some ⟨x.gl,0,none⟩) x.b.ls.length x.cl,.slice (some ⟨x.gt,0,none⟩) x.b.ts.length x.ct,.int .i64 x.b.lot] 36))
 have T0:=zh ((Turn.refl x w).alloc (.cells #[.slice (some ⟨x.ga,0,none⟩) x.b.ac.length x.ca,.slice (some ⟨x.gi,0,none⟩) x.b.ic.length x.ci,.slice (some ⟨x.gb,0,none⟩) x.b.bs.length x.cb,.slice (some ⟨x.gl,0,none⟩) x.b.ls.length x.cl,.slice (some ⟨x.gt,0,none⟩) x.b.ts.length x.ct,.int .i64 x.b.lot] 36))
 have C0:=zh (boxed w x 36)
 clear h
 go_enter Tryz.func12,Tryz.ntmps12
 go_wp2_with fail
 refine(AccountMark.markS _ base x.ga _ x.ca 1 x.b.ac na (by omega) (by omega) (zu Oa)).mono ?_
 rintro e w1 ⟨he,o,gr⟩
 replace he:e= .returned (.int .i64 (e1 x.b)):=he
 subst he
 have T1:=zh ((zu T0).grown gr (by simp))
 have C1:=zh (show Cl w1 w.heap.size x from⟨gr.cell (zu C0).c0 (fun e=>za (by injection e)),gr.cell (zu C0).c1 (fun e=>za (by injection e)),gr.cell (zu C0).c2 (fun e=>za (by injection e)),gr.cell (zu C0).c3 (fun e=>za (by injection e)),gr.cell (zu C0).c4 (fun e=>za (by injection e)),gr.cell (zu C0).c5 (fun e=>za (by injection e))⟩)
 replace Oa:=zh o
 replace Oi:=zh ((zu Oi).kept gr (fun e=>xai (by injection e with e;exact e.symm)))
 replace Ob:=zh ((zu Ob).kept gr (fun e=>xab (by injection e with e;exact e.symm)))
 replace Ol:=zh ((zu Ol).kept gr (fun e=>xal (by injection e with e;exact e.symm)))
 replace Ot:=zh ((zu Ot).kept gr (fun e=>xat (by injection e with e;exact e.symm)))
 clear o gr
 have p1:=(zu C1).c1
 go_wp2_with fail
 refine(InstrMark.markS _ base x.gi _ x.ci (e1 x.b) x.b.ic ni (by omega) (by omega) (zu Oi)).mono ?_
 rintro e w2 ⟨he,o,gr⟩
 replace he:e= .returned (.int .i64 (e2 x.b)):=he
 subst he
 have T2:=zh ((zu T1).grown gr (by simp))
 have C2:=zh (show Cl w2 w.heap.size x from⟨gr.cell (zu C1).c0 (fun e=>zi (by injection e)),gr.cell (zu C1).c1 (fun e=>zi (by injection e)),gr.cell (zu C1).c2 (fun e=>zi (by injection e)),gr.cell (zu C1).c3 (fun e=>zi (by injection e)),gr.cell (zu C1).c4 (fun e=>zi (by injection e)),gr.cell (zu C1).c5 (fun e=>zi (by injection e))⟩)
 replace Oi:=zh o
 replace Oa:=zh ((zu Oa).kept gr (fun e=>xai (by injection e)))
 replace Ob:=zh ((zu Ob).kept gr (fun e=>xib (by injection e with e;exact e.symm)))
 replace Ol:=zh ((zu Ol).kept gr (fun e=>xil (by injection e with e;exact e.symm)))
 replace Ot:=zh ((zu Ot).kept gr (fun e=>xit (by injection e with e;exact e.symm)))
 clear o gr
 have p2:=(zu C2).c2
 go_wp2_with fail
 refine(BalHelp.markS _ base x.gb _ x.cb (e2 x.b) x.b.bs nb (by omega) (by omega) (zu Ob)).mono ?_
 rintro e w3 ⟨he,o,gr⟩
 replace he:e= .returned (.int .i64 (e3 x.b)):=he
 subst he
 have T3:=zh ((zu T2).grown gr (by simp))
 have C3:=zh (show Cl w3 w.heap.size x from⟨gr.cell (zu C2).c0 (fun e=>zb (by injection e)),gr.cell (zu C2).c1 (fun e=>zb (by injection e)),gr.cell (zu C2).c2 (fun e=>zb (by injection e)),gr.cell (zu C2).c3 (fun e=>zb (by injection e)),gr.cell (zu C2).c4 (fun e=>zb (by injection e)),gr.cell (zu C2).c5 (fun e=>zb (by injection e))⟩)
 replace Ob:=zh o
 replace Oa:=zh ((zu Oa).kept gr (fun e=>xab (by injection e)))
 replace Oi:=zh ((zu Oi).kept gr (fun e=>xib (by injection e)))
 replace Ol:=zh ((zu Ol).kept gr (fun e=>xbl (by injection e with e;exact e.symm)))
 replace Ot:=zh ((zu Ot).kept gr (fun e=>xbt (by injection e with e;exact e.symm)))
 clear o gr
 have p3:=(zu C3).c3
 go_wp2_with fail
 refine(LotHelp.markS _ base x.gl _ x.cl (e3 x.b) x.b.ls nl (by omega) (by omega) (zu Ol)).mono ?_
 rintro e w4 ⟨he,o,gr⟩
 replace he:e= .returned (.int .i64 (e4 x.b)):=he
 subst he
 have T4:=zh ((zu T3).grown gr (by simp))
 have C4:=zh (show Cl w4 w.heap.size x from⟨gr.cell (zu C3).c0 (fun e=>zl (by injection e)),gr.cell (zu C3).c1 (fun e=>zl (by injection e)),gr.cell (zu C3).c2 (fun e=>zl (by injection e)),gr.cell (zu C3).c3 (fun e=>zl (by injection e)),gr.cell (zu C3).c4 (fun e=>zl (by injection e)),gr.cell (zu C3).c5 (fun e=>zl (by injection e))⟩)
 replace Ol:=zh o
 replace Oa:=zh ((zu Oa).kept gr (fun e=>xal (by injection e)))
 replace Oi:=zh ((zu Oi).kept gr (fun e=>xil (by injection e)))
 replace Ob:=zh ((zu Ob).kept gr (fun e=>xbl (by injection e)))
 replace Ot:=zh ((zu Ot).kept gr (fun e=>xlt (by injection e with e;exact e.symm)))
 clear o gr
 have p4:=(zu C4).c4
 go_wp2_with fail
 refine(TradeHelp.markS _ base x.gt _ x.ct (e4 x.b) x.b.ts nt (by omega) (by omega) (zu Ot)).mono ?_
 rintro e w5 ⟨he,o,gr⟩
 replace he:e= .returned (.int .i64 (e5 x.b)):=he
 subst he
 have T5:=zh ((zu T4).grown gr (by simp))
 have C5:=zh (show Cl w5 w.heap.size x from⟨gr.cell (zu C4).c0 (fun e=>zt (by injection e)),gr.cell (zu C4).c1 (fun e=>zt (by injection e)),gr.cell (zu C4).c2 (fun e=>zt (by injection e)),gr.cell (zu C4).c3 (fun e=>zt (by injection e)),gr.cell (zu C4).c4 (fun e=>zt (by injection e)),gr.cell (zu C4).c5 (fun e=>zt (by injection e))⟩)
 replace Ot:=zh o
 replace Oa:=zh ((zu Oa).kept gr (fun e=>xat (by injection e)))
 replace Oi:=zh ((zu Oi).kept gr (fun e=>xit (by injection e)))
 replace Ob:=zh ((zu Ob).kept gr (fun e=>xbt (by injection e)))
 replace Ol:=zh ((zu Ol).kept gr (fun e=>xlt (by injection e)))
 clear o gr
 go_wp2
 go_ret
 exact⟨rfl,⟨zu Oa,zu Oi,zu Ob,zu Ol,zu Ot⟩,zu T5⟩
theorem heldB(w:World)(base:Nat)(x:Bx)(h:OwM w base x)(hs:Small x.b):
  Calls Tryz.prog 13 #[.agg #[.slice (some ⟨x.ga,0,none⟩) x.b.ac.length x.ca,.slice (some ⟨x.gi,0,none⟩) x.b.ic.length x.ci,.slice (some ⟨x.gb,0,none⟩) x.b.bs.length x.cb,.slice (some ⟨x.gl,0,none⟩) x.b.ls.length x.cl,.slice (some ⟨x.gt,0,none⟩) x.b.ts.length x.ct,.int .i64 x.b.lot],.int .i64 1] w fun e w'=>e= .returned (.int .i64 (e5 x.b))∧Below w.heap.size w w':=by
 obtain⟨⟨l1,u1⟩,⟨l2,u2⟩,⟨l3,u3⟩,⟨l4,u4⟩,⟨l5,u5⟩⟩:=e_bd hs
 obtain⟨na,ni,nb,nl,nt⟩:=hs
 have B0:=zh ((Below.refl w.heap.size w).alloc (Nat.le_refl _) (.cells #[.slice (some ⟨x.ga,0,none⟩) x.b.ac.length x.ca,.slice (some ⟨x.gi,0,none⟩) x.b.ic.length x.ci,.slice (some ⟨x.gb,0,none⟩) x.b.bs.length x.cb,.slice (some ⟨x.gl,0,none⟩) x.b.ls.length x.cl,.slice (some ⟨x.gt,0,none⟩) x.b.ts.length x.ct,.int .i64 x.b.lot] 36))
 have H0:=zh (h.below (one_more w (.cells #[.slice (some ⟨x.ga,0,none⟩) x.b.ac.length x.ca,.slice (some ⟨x.gi,0,none⟩) x.b.ic.length x.ci,.slice (some ⟨x.gb,0,none⟩) x.b.bs.length x.cb,.slice (some ⟨x.gl,0,none⟩) x.b.ls.length x.cl,.slice (some ⟨x.gt,0,none⟩) x.b.ts.length x.ct,.int .i64 x.b.lot] 36)))
 have t1:¬e1 x.b<0:=by omega
 have t2:¬e2 x.b<0:=by omega
 have t3:¬e3 x.b<0:=by omega
 have t4:¬e4 x.b<0:=by omega
 have t5:¬e5 x.b<0:=by omega
 clear h
 go_enter Tryz.func13,Tryz.ntmps13
 go_wp2_with fail
 refine(AccountMark.heldS _ x.ga _ x.ca 1 na (by omega) (by omega) (zu H0).oa.at).mono ?_
 rintro e w1 ⟨he,rfl⟩
 replace he:e= .returned (.int .i64 (e1 x.b)):=he
 subst he
 go_wp2_with fail
 refine(InstrMark.heldS _ x.gi _ x.ci (e1 x.b) ni (by omega) (by omega) (zu H0).oi.at).mono ?_
 rintro e w2 ⟨he,rfl⟩
 replace he:e= .returned (.int .i64 (e2 x.b)):=he
 subst he
 go_wp2_with fail
 refine(BalHeld.heldS _ x.gb _ x.cb (e2 x.b) nb (by omega) (by omega) (zu H0).ob.at).mono ?_
 rintro e w3 ⟨he,rfl⟩
 replace he:e= .returned (.int .i64 (e3 x.b)):=he
 subst he
 go_wp2_with fail
 refine(LotHeld.heldS _ x.gl _ x.cl (e3 x.b) nl (by omega) (by omega) (zu H0).ol.at).mono ?_
 rintro e w4 ⟨he,rfl⟩
 replace he:e= .returned (.int .i64 (e4 x.b)):=he
 subst he
 go_wp2_with fail
 refine(TradeHeld.heldS _ x.gt _ x.ct (e4 x.b) nt (by omega) (by omega) (zu H0).ot.at).mono ?_
 rintro e w5 ⟨he,rfl⟩
 replace he:e= .returned (.int .i64 (e5 x.b)):=he
 subst he
 go_wp2
 go_ret
 exact⟨rfl,zu B0⟩
end BkEq
namespace Opens
open Pairs
theorem open_pairs{H:Type}{enc:TypeId×Value→H}{P:Program}{w:World}{base:Nat}{spare:Nat→Bool}{held:Bool}{t e i:TypeId}{n0 n1:String}{b0 b1:Bool}{t0 t1 p0 p1:String}{o0 o1:Nat}{fuel:Nat}{a:Option Addr}{len cap:Nat}{x:DataW H×List MemPlace}
  (ht:P.underlying t=some (.slice e))(he:P.underlying e=some (.struct #[{name:=n0,type:=i,offset:=0,embedded:=b0,tag:=t0,pkgPath:=p0,byteOffset:=o0},{name:=n1,type:=i,offset:=1,embedded:=b1,tag:=t1,pkgPath:=p1,byteOffset:=o1}]))
  (hc:(P.cellsOf e==2&&P.cellsOf i==1)=true)(hi:P.underlying i=some (.int .i64))
  (h:DataW.trod enc P w base spare held fuel t (Value.slice a len cap).cells.toList=some x):∃ps:List (Int×Int),ps.length=len∧len≤9223372036854775807∧Reads w a ps:=by
 have hc':P.cellsOf e=2∧P.cellsOf i=1:=by simpa using hc
 rcases Deep.open_slice_pairs ht he hc'.1 rfl rfl hc'.2 hc'.2 h with⟨hcs,_⟩|⟨b,l,c,m,n,V0,V1,D0,D1,P0,P1,hcs,_,hlc,hm,hmm,_,hx⟩
 ·simp[Value.cells] at hcs
  obtain⟨rfl,rfl,rfl⟩:=hcs
  exact⟨[],rfl,by omega,.inl rfl⟩
 ·simp[Value.cells] at hcs
  obtain⟨rfl,rfl,rfl⟩:=hcs
  have hlm:len≤m:=by rw[hmm];split<;>omega
  refine⟨(List.range len).map fun i=>(intOf (V0 i),intOf (V1 i)),by simp,by unfold maxLen at hm;omega,?_⟩
  by_cases z:len=0
  ·exact .inl (by simp[z])
  ·have val:∀i,i<len→V0 i= .int .i64 (intOf (V0 i))∧V1 i= .int .i64 (intOf (V1 i)):=fun i hi'=>by
    obtain⟨_,_,q0,q1⟩:=hx i (by omega)
    obtain⟨x0,e0,_⟩:=DataW.trod_int hi q0
    obtain⟨x1,e1,_⟩:=DataW.trod_int hi q1
    simp at e0 e1
    rw[e0,e1]
    exact⟨rfl,rfl⟩
   obtain⟨blk,off,spot⟩:=b
   have c0:=(hx 0 (by omega)).1
   have hspot:spot=none:=by simpa[Addr.add] using World.cell?_spot c0
   subst hspot
   have c0':w.cell? ⟨blk,off,none⟩=some (V0 0):=by simpa[Addr.add] using c0
   refine .inr ⟨blk,off,rfl,World.block_lt_of_cell? w _ c0',fun i hi'=>?_⟩
   have hi'':i<len:=by simpa using hi'
   obtain⟨q0,q1,_⟩:=hx i (by omega)
   obtain⟨v0,v1⟩:=val i hi''
   rw[Addr.add_lit] at q0 q1
   have hg:((List.range len).map fun i=>(intOf (V0 i),intOf (V1 i))).getD i (0,0)=(intOf (V0 i),intOf (V1 i)):=by simp[List.getD,hi'']
   rw[hg]
   exact⟨by rw[q0];exact congrArg some v0,by rw[Nat.add_assoc,q1];exact congrArg some v1⟩
end Opens
namespace Opens3
open Bals Triples
theorem open_triples{H:Type}{enc:TypeId×Value→H}{P:Program}{w:World}{base:Nat}{spare:Nat→Bool}{held:Bool}{t e i:TypeId}{f0 f1 f2:Field}{fuel:Nat}{a:Option Addr}{len cap:Nat}{x:DataW H×List MemPlace}
  (ht:P.underlying t=some (.slice e))(he:P.underlying e=some (.struct #[f0,f1,f2]))
  (hc:(P.cellsOf e==3&&P.cellsOf i==1&&f0.type==i&&f1.type==i&&f2.type==i&&f0.offset==0&&f1.offset==1&&f2.offset==2)=true)(hi:P.underlying i=some (.int .i64))
  (h:DataW.trod enc P w base spare held fuel t (Value.slice a len cap).cells.toList=some x):∃ps:List T3,ps.length=len∧len≤9223372036854775807∧Reads3 w a ps:=by
 simp at hc
 obtain⟨⟨⟨⟨⟨⟨⟨ce,ci⟩,e0⟩,e1⟩,e2⟩,o0⟩,o1⟩,o2⟩:=hc
 rcases Deep.open_slice ht h with⟨hcs,_⟩|⟨b,l,c,m,n,D,Pl,hcs,_,hlc,hm,hmm,_,hx⟩
 ·simp[Value.cells] at hcs
  obtain⟨rfl,rfl,rfl⟩:=hcs
  exact⟨[],rfl,by omega,.inl rfl⟩
 ·simp[Value.cells] at hcs
  obtain⟨rfl,rfl,rfl⟩:=hcs
  have hlm:len≤m:=by rw[hmm];split<;>omega
  have each:∀j,j<len→∃p:T3,w.cell? (b.add (j*3))=some (.int .i64 p.1)∧w.cell? (b.add (j*3+1))=some (.int .i64 p.2.1)∧w.cell? (b.add (j*3+2))=some (.int .i64 p.2.2):=by
   intro j hj
   obtain⟨cs',h1,h2⟩:=hx j (by omega)
   rw[ce] at h1
   obtain⟨_,hlen,hcell⟩:=World.cells?_some h1
   obtain⟨y0,y1,y2,k,_,_,g0,g1,g2⟩:=Deep.trod_struct3 he h2
   match cs',hlen with
   |[v0,v1,v2],_=>
    rw[e0] at g0
    rw[e1] at g1
    rw[e2] at g2
    simp[o0,o1,o2,ci] at g0 g1 g2
    obtain⟨x0,q0,_⟩:=DataW.trod_int hi g0
    obtain⟨x1,q1,_⟩:=DataW.trod_int hi g1
    obtain⟨x2,q2,_⟩:=DataW.trod_int hi g2
    simp at q0 q1 q2
    subst q0 q1 q2
    have d0:=hcell 0 (by omega)
    have d1:=hcell 1 (by omega)
    have d2:=hcell 2 (by omega)
    rw[Deep.add_add] at d0 d1 d2
    exact⟨(x0,x1,x2),by simpa using d0,by simpa using d1,by simpa using d2⟩
  obtain⟨q,hq⟩:=Deep.choose_lt each
  refine⟨(List.range len).map q,by simp,by unfold maxLen at hm;omega,?_⟩
  by_cases z:len=0
  ·exact .inl (by simp[z])
  ·obtain⟨blk,off,spot⟩:=b
   have c0:=(hq 0 (by omega)).1
   have hspot:spot=none:=by simpa[Addr.add] using World.cell?_spot c0
   subst hspot
   have c0':w.cell? ⟨blk,off,none⟩=some (.int .i64 (q 0).1):=by simpa[Addr.add] using c0
   refine .inr ⟨blk,off,rfl,World.block_lt_of_cell? w _ c0',fun j hj=>?_⟩
   have hj':j<len:=by simpa using hj
   obtain⟨p0,p1,p2⟩:=hq j hj'
   rw[Addr.add_lit] at p0 p1 p2
   have hg:el3 ((List.range len).map q) j=q j:=by simp[List.getD,hj']
   rw[hg]
   exact⟨p0,by rw[Nat.add_assoc];exact p1,by rw[Nat.add_assoc];exact p2⟩
end Opens3
namespace Opens5
open Tup5
theorem cells_of{H:Type}{enc:TypeId×Value→H}{P:Program}{w:World}{base:Nat}{spare:Nat→Bool}{held:Bool}{e i:TypeId}{f0 f1 f2 f3 f4:Field}{fuel:Nat}{cs:List Value}{x:DataW H×List MemPlace}
  (he:P.underlying e=some (.struct #[f0,f1,f2,f3,f4]))(hc:(P.cellsOf e==5&&P.cellsOf i==1&&f0.type==i&&f1.type==i&&f2.type==i&&f3.type==i&&f4.type==i&&f0.offset==0&&f1.offset==1&&f2.offset==2&&f3.offset==3&&f4.offset==4)=true)(hi:P.underlying i=some (.int .i64))
  (h:DataW.trod enc P w base spare held fuel e cs=some x):∃p:T5,cs=[.int .i64 p.1,.int .i64 p.2.1,.int .i64 p.2.2.1,.int .i64 p.2.2.2.1,.int .i64 p.2.2.2.2]:=by
 simp at hc
 obtain⟨⟨⟨⟨⟨⟨⟨⟨⟨⟨⟨ce,ci⟩,e0⟩,e1⟩,e2⟩,e3⟩,e4⟩,o0⟩,o1⟩,o2⟩,o3⟩,o4⟩:=hc
 obtain⟨xs,k,_,_,hl,hlen,hf⟩:=DataW.trod_struct he h
 rw[ce] at hl
 match xs,hlen,cs,hl with
 |[y0,y1,y2,y3,y4],_,[v0,v1,v2,v3,v4],_=>
  have g0:=hf 0 f0 rfl
  have g1:=hf 1 f1 rfl
  have g2:=hf 2 f2 rfl
  have g3:=hf 3 f3 rfl
  have g4:=hf 4 f4 rfl
  rw[e0] at g0
  simp[o0,ci] at g0
  obtain⟨x0,q0,_⟩:=DataW.trod_int hi g0
  simp at q0
  rw[e1] at g1
  simp[o1,ci] at g1
  obtain⟨x1,q1,_⟩:=DataW.trod_int hi g1
  simp at q1
  rw[e2] at g2
  simp[o2,ci] at g2
  obtain⟨x2,q2,_⟩:=DataW.trod_int hi g2
  simp at q2
  rw[e3] at g3
  simp[o3,ci] at g3
  obtain⟨x3,q3,_⟩:=DataW.trod_int hi g3
  simp at q3
  rw[e4] at g4
  simp[o4,ci] at g4
  obtain⟨x4,q4,_⟩:=DataW.trod_int hi g4
  simp at q4
  subst q0 q1 q2 q3 q4
  exact⟨(x0,x1,x2,x3,x4),rfl⟩
theorem open_rows{H:Type}{enc:TypeId×Value→H}{P:Program}{w:World}{base:Nat}{spare:Nat→Bool}{held:Bool}{t e i:TypeId}{f0 f1 f2 f3 f4:Field}{fuel:Nat}{a:Option Addr}{len cap:Nat}{x:DataW H×List MemPlace}
  (ht:P.underlying t=some (.slice e))(he:P.underlying e=some (.struct #[f0,f1,f2,f3,f4]))(hc:(P.cellsOf e==5&&P.cellsOf i==1&&f0.type==i&&f1.type==i&&f2.type==i&&f3.type==i&&f4.type==i&&f0.offset==0&&f1.offset==1&&f2.offset==2&&f3.offset==3&&f4.offset==4)=true)(hi:P.underlying i=some (.int .i64))
  (h:DataW.trod enc P w base spare held fuel t (Value.slice a len cap).cells.toList=some x):∃ps:List T5,ps.length=len∧len≤9223372036854775807∧Reads5 w a ps:=by
 have ce:P.cellsOf e=5:=by
  simp at hc
  exact hc.1.1.1.1.1.1.1.1.1.1.1
 rcases Deep.open_slice ht h with⟨hcs,_⟩|⟨b,l,c,m,n,D,Pl,hcs,_,hlc,hm,hmm,_,hx⟩
 ·simp[Value.cells] at hcs
  obtain⟨rfl,rfl,rfl⟩:=hcs
  exact⟨[],rfl,by omega,.inl rfl⟩
 ·simp[Value.cells] at hcs
  obtain⟨rfl,rfl,rfl⟩:=hcs
  have hlm:len≤m:=by rw[hmm];split<;>omega
  have each:∀j,j<len→∃p:T5,w.cell? (b.add (j*5))=some (.int .i64 p.1)∧w.cell? (b.add (j*5+1))=some (.int .i64 p.2.1)∧w.cell? (b.add (j*5+2))=some (.int .i64 p.2.2.1)∧w.cell? (b.add (j*5+3))=some (.int .i64 p.2.2.2.1)∧w.cell? (b.add (j*5+4))=some (.int .i64 p.2.2.2.2):=by
   intro j hj
   obtain⟨cs',h1,h2⟩:=hx j (by omega)
   rw[ce] at h1
   obtain⟨_,hlen,hcell⟩:=World.cells?_some h1
   obtain⟨p,rfl⟩:=cells_of he hc hi h2
   have d0:=hcell 0 (by omega)
   have d1:=hcell 1 (by omega)
   have d2:=hcell 2 (by omega)
   have d3:=hcell 3 (by omega)
   have d4:=hcell 4 (by omega)
   rw[Deep.add_add] at d0 d1 d2 d3 d4
   exact⟨p,by simpa using d0,by simpa using d1,by simpa using d2,by simpa using d3,by simpa using d4⟩
  obtain⟨q,hq⟩:=Deep.choose_lt each
  refine⟨(List.range len).map q,by simp,by unfold maxLen at hm;omega,?_⟩
  by_cases z:len=0
  ·exact .inl (by simp[z])
  ·obtain⟨blk,off,spot⟩:=b
   have c0:=(hq 0 (by omega)).1
   have hspot:spot=none:=by simpa[Addr.add] using World.cell?_spot c0
   subst hspot
   have c0':w.cell? ⟨blk,off,none⟩=some (.int .i64 (q 0).1):=by simpa[Addr.add] using c0
   refine .inr ⟨blk,off,rfl,World.block_lt_of_cell? w _ c0',fun j hj=>?_⟩
   have hj':j<len:=by simpa using hj
   obtain⟨p0,p1,p2,p3,p4⟩:=hq j hj'
   rw[Addr.add_lit] at p0 p1 p2 p3 p4
   have hg:el5 ((List.range len).map q) j=q j:=by simp[List.getD,hj']
   rw[hg]
   exact⟨p0,by rw[Nat.add_assoc];exact p1,by rw[Nat.add_assoc];exact p2,by rw[Nat.add_assoc];exact p3,by rw[Nat.add_assoc];exact p4⟩
end Opens5
namespace Opens8
open Tup8
theorem cells_of{H:Type}{enc:TypeId×Value→H}{P:Program}{w:World}{base:Nat}{spare:Nat→Bool}{held:Bool}{e i:TypeId}{f0 f1 f2 f3 f4 f5 f6 f7:Field}{fuel:Nat}{cs:List Value}{x:DataW H×List MemPlace}
  (he:P.underlying e=some (.struct #[f0,f1,f2,f3,f4,f5,f6,f7]))(hc:(P.cellsOf e==8&&P.cellsOf i==1&&f0.type==i&&f1.type==i&&f2.type==i&&f3.type==i&&f4.type==i&&f5.type==i&&f6.type==i&&f7.type==i&&f0.offset==0&&f1.offset==1&&f2.offset==2&&f3.offset==3&&f4.offset==4&&f5.offset==5&&f6.offset==6&&f7.offset==7)=true)(hi:P.underlying i=some (.int .i64))
  (h:DataW.trod enc P w base spare held fuel e cs=some x):∃p:T8,cs=[.int .i64 p.1,.int .i64 p.2.1,.int .i64 p.2.2.1,.int .i64 p.2.2.2.1,.int .i64 p.2.2.2.2.1,.int .i64 p.2.2.2.2.2.1,.int .i64 p.2.2.2.2.2.2.1,.int .i64 p.2.2.2.2.2.2.2]:=by
 simp at hc
 obtain⟨⟨⟨⟨⟨⟨⟨⟨⟨⟨⟨⟨⟨⟨⟨⟨⟨ce,ci⟩,e0⟩,e1⟩,e2⟩,e3⟩,e4⟩,e5⟩,e6⟩,e7⟩,o0⟩,o1⟩,o2⟩,o3⟩,o4⟩,o5⟩,o6⟩,o7⟩:=hc
 obtain⟨xs,k,_,_,hl,hlen,hf⟩:=DataW.trod_struct he h
 rw[ce] at hl
 match xs,hlen,cs,hl with
 |[y0,y1,y2,y3,y4,y5,y6,y7],_,[v0,v1,v2,v3,v4,v5,v6,v7],_=>
  have g0:=hf 0 f0 rfl
  have g1:=hf 1 f1 rfl
  have g2:=hf 2 f2 rfl
  have g3:=hf 3 f3 rfl
  have g4:=hf 4 f4 rfl
  have g5:=hf 5 f5 rfl
  have g6:=hf 6 f6 rfl
  have g7:=hf 7 f7 rfl
  rw[e0] at g0
  simp[o0,ci] at g0
  obtain⟨x0,q0,_⟩:=DataW.trod_int hi g0
  simp at q0
  rw[e1] at g1
  simp[o1,ci] at g1
  obtain⟨x1,q1,_⟩:=DataW.trod_int hi g1
  simp at q1
  rw[e2] at g2
  simp[o2,ci] at g2
  obtain⟨x2,q2,_⟩:=DataW.trod_int hi g2
  simp at q2
  rw[e3] at g3
  simp[o3,ci] at g3
  obtain⟨x3,q3,_⟩:=DataW.trod_int hi g3
  simp at q3
  rw[e4] at g4
  simp[o4,ci] at g4
  obtain⟨x4,q4,_⟩:=DataW.trod_int hi g4
  simp at q4
  rw[e5] at g5
  simp[o5,ci] at g5
  obtain⟨x5,q5,_⟩:=DataW.trod_int hi g5
  simp at q5
  rw[e6] at g6
  simp[o6,ci] at g6
  obtain⟨x6,q6,_⟩:=DataW.trod_int hi g6
  simp at q6
  rw[e7] at g7
  simp[o7,ci] at g7
  obtain⟨x7,q7,_⟩:=DataW.trod_int hi g7
  simp at q7
  subst q0 q1 q2 q3 q4 q5 q6 q7
  exact⟨(x0,x1,x2,x3,x4,x5,x6,x7),rfl⟩
theorem open_rows{H:Type}{enc:TypeId×Value→H}{P:Program}{w:World}{base:Nat}{spare:Nat→Bool}{held:Bool}{t e i:TypeId}{f0 f1 f2 f3 f4 f5 f6 f7:Field}{fuel:Nat}{a:Option Addr}{len cap:Nat}{x:DataW H×List MemPlace}
  (ht:P.underlying t=some (.slice e))(he:P.underlying e=some (.struct #[f0,f1,f2,f3,f4,f5,f6,f7]))(hc:(P.cellsOf e==8&&P.cellsOf i==1&&f0.type==i&&f1.type==i&&f2.type==i&&f3.type==i&&f4.type==i&&f5.type==i&&f6.type==i&&f7.type==i&&f0.offset==0&&f1.offset==1&&f2.offset==2&&f3.offset==3&&f4.offset==4&&f5.offset==5&&f6.offset==6&&f7.offset==7)=true)(hi:P.underlying i=some (.int .i64))
  (h:DataW.trod enc P w base spare held fuel t (Value.slice a len cap).cells.toList=some x):∃ps:List T8,ps.length=len∧len≤9223372036854775807∧Reads8 w a ps:=by
 have ce:P.cellsOf e=8:=by
  simp at hc
  exact hc.1.1.1.1.1.1.1.1.1.1.1.1.1.1.1.1.1
 rcases Deep.open_slice ht h with⟨hcs,_⟩|⟨b,l,c,m,n,D,Pl,hcs,_,hlc,hm,hmm,_,hx⟩
 ·simp[Value.cells] at hcs
  obtain⟨rfl,rfl,rfl⟩:=hcs
  exact⟨[],rfl,by omega,.inl rfl⟩
 ·simp[Value.cells] at hcs
  obtain⟨rfl,rfl,rfl⟩:=hcs
  have hlm:len≤m:=by rw[hmm];split<;>omega
  have each:∀j,j<len→∃p:T8,w.cell? (b.add (j*8))=some (.int .i64 p.1)∧w.cell? (b.add (j*8+1))=some (.int .i64 p.2.1)∧w.cell? (b.add (j*8+2))=some (.int .i64 p.2.2.1)∧w.cell? (b.add (j*8+3))=some (.int .i64 p.2.2.2.1)∧w.cell? (b.add (j*8+4))=some (.int .i64 p.2.2.2.2.1)∧w.cell? (b.add (j*8+5))=some (.int .i64 p.2.2.2.2.2.1)∧w.cell? (b.add (j*8+6))=some (.int .i64 p.2.2.2.2.2.2.1)∧w.cell? (b.add (j*8+7))=some (.int .i64 p.2.2.2.2.2.2.2):=by
   intro j hj
   obtain⟨cs',h1,h2⟩:=hx j (by omega)
   rw[ce] at h1
   obtain⟨_,hlen,hcell⟩:=World.cells?_some h1
   obtain⟨p,rfl⟩:=cells_of he hc hi h2
   have d0:=hcell 0 (by omega)
   have d1:=hcell 1 (by omega)
   have d2:=hcell 2 (by omega)
   have d3:=hcell 3 (by omega)
   have d4:=hcell 4 (by omega)
   have d5:=hcell 5 (by omega)
   have d6:=hcell 6 (by omega)
   have d7:=hcell 7 (by omega)
   rw[Deep.add_add] at d0 d1 d2 d3 d4 d5 d6 d7
   exact⟨p,by simpa using d0,by simpa using d1,by simpa using d2,by simpa using d3,by simpa using d4,by simpa using d5,by simpa using d6,by simpa using d7⟩
  obtain⟨q,hq⟩:=Deep.choose_lt each
  refine⟨(List.range len).map q,by simp,by unfold maxLen at hm;omega,?_⟩
  by_cases z:len=0
  ·exact .inl (by simp[z])
  ·obtain⟨blk,off,spot⟩:=b
   have c0:=(hq 0 (by omega)).1
   have hspot:spot=none:=by simpa[Addr.add] using World.cell?_spot c0
   subst hspot
   have c0':w.cell? ⟨blk,off,none⟩=some (.int .i64 (q 0).1):=by simpa[Addr.add] using c0
   refine .inr ⟨blk,off,rfl,World.block_lt_of_cell? w _ c0',fun j hj=>?_⟩
   have hj':j<len:=by simpa using hj
   obtain⟨p0,p1,p2,p3,p4,p5,p6,p7⟩:=hq j hj'
   rw[Addr.add_lit] at p0 p1 p2 p3 p4 p5 p6 p7
   have hg:el8 ((List.range len).map q) j=q j:=by simp[List.getD,hj']
   rw[hg]
   exact⟨p0,by rw[Nat.add_assoc];exact p1,by rw[Nat.add_assoc];exact p2,by rw[Nat.add_assoc];exact p3,by rw[Nat.add_assoc];exact p4,by rw[Nat.add_assoc];exact p5,by rw[Nat.add_assoc];exact p6,by rw[Nat.add_assoc];exact p7⟩
end Opens8
namespace OpensB
open BMem Bks BHelp BkEq
theorem slice_cell{H:Type}{enc:TypeId×Value→H}{P:Program}{w:World}{base:Nat}{spare:Nat→Bool}{held:Bool}{t e:TypeId}{fuel:Nat}{v:Value}{x:DataW H×List MemPlace}
  (ht:P.underlying t=some (.slice e))(h:DataW.trod enc P w base spare held fuel t [v]=some x):∃a len cap,v= .slice a len cap:=by
 rcases Deep.open_slice ht h with⟨hcs,_⟩|⟨b,l,c,m,n,D,Pl,hcs,_⟩
 ·simp at hcs
  exact⟨_,_,_,hcs⟩
 ·simp at hcs
  exact⟨_,_,_,hcs⟩
theorem struct_cells{H:Type}{enc:TypeId×Value→H}{P:Program}{w:World}{base:Nat}{spare:Nat→Bool}{held:Bool}{e:TypeId}{f0 f1 f2 f3 f4 f5:Field}{fuel:Nat}{cs:List Value}{x:DataW H×List MemPlace}
  (he:P.underlying e=some (.struct #[f0,f1,f2,f3,f4,f5]))(hc:(P.cellsOf e==6&&P.cellsOf f0.type==1&&P.cellsOf f1.type==1&&P.cellsOf f2.type==1&&P.cellsOf f3.type==1&&P.cellsOf f4.type==1&&P.cellsOf f5.type==1&&f0.offset==0&&f1.offset==1&&f2.offset==2&&f3.offset==3&&f4.offset==4&&f5.offset==5)=true)
  (h:DataW.trod enc P w base spare held fuel e cs=some x):∃v0 v1 v2 v3 v4 v5 k x0 x1 x2 x3 x4 x5,cs=[v0,v1,v2,v3,v4,v5]∧DataW.trod enc P w base spare held k f0.type [v0]=some x0∧DataW.trod enc P w base spare held k f1.type [v1]=some x1∧DataW.trod enc P w base spare held k f2.type [v2]=some x2∧DataW.trod enc P w base spare held k f3.type [v3]=some x3∧DataW.trod enc P w base spare held k f4.type [v4]=some x4∧DataW.trod enc P w base spare held k f5.type [v5]=some x5:=by
 simp at hc
 obtain⟨⟨⟨⟨⟨⟨⟨⟨⟨⟨⟨⟨ce,k0⟩,k1⟩,k2⟩,k3⟩,k4⟩,k5⟩,o0⟩,o1⟩,o2⟩,o3⟩,o4⟩,o5⟩:=hc
 obtain⟨xs,k,_,_,hl,hlen,hf⟩:=DataW.trod_struct he h
 rw[ce] at hl
 match xs,hlen,cs,hl with
 |[y0,y1,y2,y3,y4,y5],_,[v0,v1,v2,v3,v4,v5],_=>
  have g0:=hf 0 f0 rfl
  have g1:=hf 1 f1 rfl
  have g2:=hf 2 f2 rfl
  have g3:=hf 3 f3 rfl
  have g4:=hf 4 f4 rfl
  have g5:=hf 5 f5 rfl
  simp[o0,k0] at g0
  simp[o1,k1] at g1
  simp[o2,k2] at g2
  simp[o3,k3] at g3
  simp[o4,k4] at g4
  simp[o5,k5] at g5
  exact⟨v0,v1,v2,v3,v4,v5,k,_,_,_,_,_,_,rfl,g0,g1,g2,g3,g4,g5⟩
theorem open_books{H:Type}{enc:TypeId×Value→H}{w:World}{base b0':Nat}{spare:Nat→Bool}{held:Bool}{r:Reach}{v:Value}{d:DataW H}{p:List MemPlace}
  (hv:Value.okWide Tryz.prog w r b0' 28 v)(h:DataW.Trod enc Tryz.prog w base spare held 28 v d p):∃y:Ix,v= .agg #[.slice y.aa y.b.ac.length y.ca,.slice y.ai y.b.ic.length y.ci,.slice y.ab y.b.bs.length y.cb,.slice y.al y.b.ls.length y.cl,.slice y.ats y.b.ts.length y.ct,.int .i64 y.b.lot]∧RdI w y∧Fits y.b:=by
 obtain⟨cs,rfl,_⟩:=okWide_struct Tryz.underlying28 hv
 obtain⟨fuel,hf⟩:=h
 obtain⟨v0,v1,v2,v3,v4,v5,k,x0,x1,x2,x3,x4,x5,e,g0,g1,g2,g3,g4,g5⟩:=struct_cells (cs:=cs.toList) Tryz.underlying28 (by kernel_rfl) (by simpa[Value.cells] using hf)
 obtain⟨a0,l0,c0,rfl⟩:=slice_cell Tryz.underlying22 g0
 obtain⟨a1,l1,c1,rfl⟩:=slice_cell Tryz.underlying23 g1
 obtain⟨a2,l2,c2,rfl⟩:=slice_cell Tryz.underlying24 g2
 obtain⟨a3,l3,c3,rfl⟩:=slice_cell Tryz.underlying25 g3
 obtain⟨a4,l4,c4,rfl⟩:=slice_cell Tryz.underlying26 g4
 obtain⟨z,q,_⟩:=DataW.trod_int Tryz.underlying3 g5
 simp at q
 subst q
 obtain⟨p0,rfl,m0,r0⟩:=Opens.open_pairs Tryz.underlying22 Tryz.underlying116 (by kernel_rfl) Tryz.underlying3 (a:=a0) (len:=l0) (cap:=c0) g0
 obtain⟨p1,rfl,m1,r1⟩:=Opens.open_pairs Tryz.underlying23 Tryz.underlying118 (by kernel_rfl) Tryz.underlying3 (a:=a1) (len:=l1) (cap:=c1) g1
 obtain⟨p2,rfl,m2,r2⟩:=Opens3.open_triples Tryz.underlying24 Tryz.underlying121 (by kernel_rfl) Tryz.underlying3 (a:=a2) (len:=l2) (cap:=c2) g2
 obtain⟨p3,rfl,m3,r3⟩:=Opens5.open_rows Tryz.underlying25 Tryz.underlying125 (by kernel_rfl) Tryz.underlying3 (a:=a3) (len:=l3) (cap:=c3) g3
 obtain⟨p4,rfl,m4,r4⟩:=Opens8.open_rows Tryz.underlying26 Tryz.underlying127 (by kernel_rfl) Tryz.underlying3 (a:=a4) (len:=l4) (cap:=c4) g4
 exact⟨⟨a0,c0,a1,c1,a2,c2,a3,c3,a4,c4,⟨p0,p1,p2,p3,p4,z⟩⟩,congrArg Value.agg (Array.ext' e),⟨r0,r1,r2,r3,r4⟩,⟨m0,m1,m2,m3,m4⟩⟩
end OpensB
namespace LawB
open BMem Bks BHelp BkEq
open IBalsFit (one_more)
structure LB(w W:World)(y:Ix):Prop where
 r:RdI W y
 c:ClI W w.heap.size y
 b:Below w.heap.size w W
 s:w.heap.size<W.heap.size
theorem LB.start{w:World}{y:Ix}(h:RdI w y)(e:TypeId):LB w (w.alloc (.cells #[.slice y.aa y.b.ac.length y.ca,.slice y.ai y.b.ic.length y.ci,.slice y.ab y.b.bs.length y.cb,.slice y.al y.b.ls.length y.cl,.slice y.ats y.b.ts.length y.ct,.int .i64 y.b.lot] e)) y:=
 ⟨h.below (one_more _ _),boxedI w y e,one_more _ _,by simp⟩
theorem LB.step{w W W':World}{y:Ix}(h:LB w W y)(k:Below W.heap.size W W'):LB w W' y:=
 ⟨h.r.below k,h.c.below k h.s,h.b.trans (k.mono (Nat.le_of_lt h.s)),Nat.lt_of_lt_of_le h.s k.size⟩
theorem LB.turn{w W W':World}{y:Ix}{x:Bx}(H:RdI w y)(h:LB w W y)(k:Turn x W W')(lo:Lo x (w.heap.size+1)):LB w W' y:=by
 have kb:=k.below (B:=w.heap.size+1) h.s lo
 have b:=h.b.trans (kb.mono (by omega))
 exact⟨H.below b,h.c.below kb (by omega),b,Nat.lt_of_lt_of_le h.s k.size⟩
theorem rdI_drew{w:World}{y:Ix}(h:RdI w y):RdI w.drew y:=⟨h.ra,h.ri,h.rb,h.rl,h.rt⟩
theorem Lo.mono{x:Bx}{N M:Nat}(h:Lo x N)(hm:M≤N):Lo x M:=by
 unfold Lo at *
 omega
theorem Up.mono{x:Bx}{N M:Nat}(h:Up x N)(hm:N≤M):Up x M:=by
 unfold Up at *
 omega
structure Bv(W:World)(g:Nat)(x:Bx):Prop where
 c:Cl W g x
 l:g<W.heap.size
theorem Bv.step{W W':World}{g:Nat}{x:Bx}(h:Bv W g x)(k:Below W.heap.size W W'):Bv W' g x:=⟨h.c.below k h.l,Nat.lt_of_lt_of_le h.l k.size⟩
theorem Bv.turn{W W':World}{g:Nat}{x z:Bx}(h:Bv W g x)(k:Turn z W W')(ne:(∃N,g<N∧Lo z N)∨∃N,N≤g∧Up z N):Bv W' g x:=by
 have e:W'.heap[g]?=W.heap[g]?:=by
  refine k.block g h.l ?_ ?_ ?_ ?_ ?_
  all_goals
   rcases ne with⟨N,a,b⟩|⟨N,a,b⟩
   ·unfold Lo at b;omega
   ·unfold Up at b;omega
 have cc:∀i,W'.cell? ⟨g,i,none⟩=W.cell? ⟨g,i,none⟩:=fun i=>World.cell?_of_block (w:=W) (w':=W') (a:=⟨g,i,none⟩) e
 exact⟨⟨(cc 0).trans h.c.c0,(cc 1).trans h.c.c1,(cc 2).trans h.c.c2,(cc 3).trans h.c.c3,(cc 4).trans h.c.c4,(cc 5).trans h.c.c5⟩,Nat.lt_of_lt_of_le h.l k.size⟩
theorem Bv.made{w:World}{x:Bx}(e:TypeId){g:Nat}(hg:g=w.heap.size):Bv (w.alloc (.cells #[.slice (some ⟨x.ga,0,none⟩) x.b.ac.length x.ca,.slice (some ⟨x.gi,0,none⟩) x.b.ic.length x.ci,.slice (some ⟨x.gb,0,none⟩) x.b.bs.length x.cb,.slice (some ⟨x.gl,0,none⟩) x.b.ls.length x.cl,.slice (some ⟨x.gt,0,none⟩) x.b.ts.length x.ct,.int .i64 x.b.lot] e)) g x:=by
 subst hg
 exact⟨ILists.boxed w x e,by simp⟩
theorem cells12{w W:World}{y:Ix}{g:Nat}{x:Bx}(h:ClI W w.heap.size y)(k:Cl W g x):W.cell? ⟨w.heap.size,0,none⟩=some (.slice y.aa y.b.ac.length y.ca)∧W.cell? ⟨w.heap.size,1,none⟩=some (.slice y.ai y.b.ic.length y.ci)∧W.cell? ⟨w.heap.size,2,none⟩=some (.slice y.ab y.b.bs.length y.cb)∧W.cell? ⟨w.heap.size,3,none⟩=some (.slice y.al y.b.ls.length y.cl)∧W.cell? ⟨w.heap.size,4,none⟩=some (.slice y.ats y.b.ts.length y.ct)∧W.cell? ⟨w.heap.size,5,none⟩=some (.int .i64 y.b.lot)∧W.cell? ⟨g,0,none⟩=some (.slice (some ⟨x.ga,0,none⟩) x.b.ac.length x.ca)∧W.cell? ⟨g,1,none⟩=some (.slice (some ⟨x.gi,0,none⟩) x.b.ic.length x.ci)∧W.cell? ⟨g,2,none⟩=some (.slice (some ⟨x.gb,0,none⟩) x.b.bs.length x.cb)∧W.cell? ⟨g,3,none⟩=some (.slice (some ⟨x.gl,0,none⟩) x.b.ls.length x.cl)∧W.cell? ⟨g,4,none⟩=some (.slice (some ⟨x.gt,0,none⟩) x.b.ts.length x.ct)∧W.cell? ⟨g,5,none⟩=some (.int .i64 x.b.lot):=
 ⟨h.c0,h.c1,h.c2,h.c3,h.c4,h.c5,k.c0,k.c1,k.c2,k.c3,k.c4,k.c5⟩
end LawB
namespace BZero
theorem zh{p:Prop}(h:p):Hid p:=h
theorem zu{p:Prop}(h:Hid p):p:=h
theorem eqAccount(w:World):Calls Tryz.prog 51 #[.slice none 0 0,.slice none 0 0] w fun e w'=>e= .returned (.bool true)∧w'=w:=by
 go_enter Tryz.func51,Tryz.ntmps51
 go_wp2
 go_loopw [5] (fun j wr=>j= .int .i64 0∧wr=w) (fun _ _=>0)
 case atStart=>exact⟨rfl,rfl⟩
 case round=>
  obtain⟨rfl,rfl⟩:=hrel
  go_wp2
  go_ret
  exact⟨rfl,rfl⟩
theorem markAccount(w:World)(s:Int):Calls Tryz.prog 56 #[.slice none 0 0,.int .i64 s] w fun e w'=>e= .returned (.int .i64 s)∧w'=w:=by
 go_enter Tryz.func56,Tryz.ntmps56
 go_wp2
 go_loopw [1,5] (fun m j wr=>m= .int .i64 s∧j= .int .i64 0∧wr=w) (fun _ _ _=>0)
 case atStart=>exact⟨rfl,rfl,rfl⟩
 case round=>
  obtain⟨rfl,rfl,rfl⟩:=hrel
  go_wp2
  go_ret
  exact⟨rfl,rfl⟩
theorem heldAccount(w:World)(s:Int):Calls Tryz.prog 61 #[.slice none 0 0,.int .i64 s] w fun e w'=>e= .returned (.int .i64 s)∧w'=w:=by
 go_enter Tryz.func61,Tryz.ntmps61
 go_wp2
 go_loopw [1,5] (fun m j wr=>m= .int .i64 s∧j= .int .i64 0∧wr=w) (fun _ _ _=>0)
 case atStart=>exact⟨rfl,rfl,rfl⟩
 case round=>
  obtain⟨rfl,rfl,rfl⟩:=hrel
  go_wp2
  go_ret
  exact⟨rfl,rfl⟩
theorem eqInstr(w:World):Calls Tryz.prog 52 #[.slice none 0 0,.slice none 0 0] w fun e w'=>e= .returned (.bool true)∧w'=w:=by
 go_enter Tryz.func52,Tryz.ntmps52
 go_wp2
 go_loopw [5] (fun j wr=>j= .int .i64 0∧wr=w) (fun _ _=>0)
 case atStart=>exact⟨rfl,rfl⟩
 case round=>
  obtain⟨rfl,rfl⟩:=hrel
  go_wp2
  go_ret
  exact⟨rfl,rfl⟩
theorem markInstr(w:World)(s:Int):Calls Tryz.prog 57 #[.slice none 0 0,.int .i64 s] w fun e w'=>e= .returned (.int .i64 s)∧w'=w:=by
 go_enter Tryz.func57,Tryz.ntmps57
 go_wp2
 go_loopw [1,5] (fun m j wr=>m= .int .i64 s∧j= .int .i64 0∧wr=w) (fun _ _ _=>0)
 case atStart=>exact⟨rfl,rfl,rfl⟩
 case round=>
  obtain⟨rfl,rfl,rfl⟩:=hrel
  go_wp2
  go_ret
  exact⟨rfl,rfl⟩
theorem heldInstr(w:World)(s:Int):Calls Tryz.prog 62 #[.slice none 0 0,.int .i64 s] w fun e w'=>e= .returned (.int .i64 s)∧w'=w:=by
 go_enter Tryz.func62,Tryz.ntmps62
 go_wp2
 go_loopw [1,5] (fun m j wr=>m= .int .i64 s∧j= .int .i64 0∧wr=w) (fun _ _ _=>0)
 case atStart=>exact⟨rfl,rfl,rfl⟩
 case round=>
  obtain⟨rfl,rfl,rfl⟩:=hrel
  go_wp2
  go_ret
  exact⟨rfl,rfl⟩
theorem eqBal(w:World):Calls Tryz.prog 53 #[.slice none 0 0,.slice none 0 0] w fun e w'=>e= .returned (.bool true)∧w'=w:=by
 go_enter Tryz.func53,Tryz.ntmps53
 go_wp2
 go_loopw [5] (fun j wr=>j= .int .i64 0∧wr=w) (fun _ _=>0)
 case atStart=>exact⟨rfl,rfl⟩
 case round=>
  obtain⟨rfl,rfl⟩:=hrel
  go_wp2
  go_ret
  exact⟨rfl,rfl⟩
theorem markBal(w:World)(s:Int):Calls Tryz.prog 58 #[.slice none 0 0,.int .i64 s] w fun e w'=>e= .returned (.int .i64 s)∧w'=w:=by
 go_enter Tryz.func58,Tryz.ntmps58
 go_wp2
 go_loopw [1,5] (fun m j wr=>m= .int .i64 s∧j= .int .i64 0∧wr=w) (fun _ _ _=>0)
 case atStart=>exact⟨rfl,rfl,rfl⟩
 case round=>
  obtain⟨rfl,rfl,rfl⟩:=hrel
  go_wp2
  go_ret
  exact⟨rfl,rfl⟩
theorem heldBal(w:World)(s:Int):Calls Tryz.prog 63 #[.slice none 0 0,.int .i64 s] w fun e w'=>e= .returned (.int .i64 s)∧w'=w:=by
 go_enter Tryz.func63,Tryz.ntmps63
 go_wp2
 go_loopw [1,5] (fun m j wr=>m= .int .i64 s∧j= .int .i64 0∧wr=w) (fun _ _ _=>0)
 case atStart=>exact⟨rfl,rfl,rfl⟩
 case round=>
  obtain⟨rfl,rfl,rfl⟩:=hrel
  go_wp2
  go_ret
  exact⟨rfl,rfl⟩
theorem eqLot(w:World):Calls Tryz.prog 54 #[.slice none 0 0,.slice none 0 0] w fun e w'=>e= .returned (.bool true)∧w'=w:=by
 go_enter Tryz.func54,Tryz.ntmps54
 go_wp2
 go_loopw [5] (fun j wr=>j= .int .i64 0∧wr=w) (fun _ _=>0)
 case atStart=>exact⟨rfl,rfl⟩
 case round=>
  obtain⟨rfl,rfl⟩:=hrel
  go_wp2
  go_ret
  exact⟨rfl,rfl⟩
theorem markLot(w:World)(s:Int):Calls Tryz.prog 59 #[.slice none 0 0,.int .i64 s] w fun e w'=>e= .returned (.int .i64 s)∧w'=w:=by
 go_enter Tryz.func59,Tryz.ntmps59
 go_wp2
 go_loopw [1,5] (fun m j wr=>m= .int .i64 s∧j= .int .i64 0∧wr=w) (fun _ _ _=>0)
 case atStart=>exact⟨rfl,rfl,rfl⟩
 case round=>
  obtain⟨rfl,rfl,rfl⟩:=hrel
  go_wp2
  go_ret
  exact⟨rfl,rfl⟩
theorem heldLot(w:World)(s:Int):Calls Tryz.prog 64 #[.slice none 0 0,.int .i64 s] w fun e w'=>e= .returned (.int .i64 s)∧w'=w:=by
 go_enter Tryz.func64,Tryz.ntmps64
 go_wp2
 go_loopw [1,5] (fun m j wr=>m= .int .i64 s∧j= .int .i64 0∧wr=w) (fun _ _ _=>0)
 case atStart=>exact⟨rfl,rfl,rfl⟩
 case round=>
  obtain⟨rfl,rfl,rfl⟩:=hrel
  go_wp2
  go_ret
  exact⟨rfl,rfl⟩
theorem eqTrade(w:World):Calls Tryz.prog 55 #[.slice none 0 0,.slice none 0 0] w fun e w'=>e= .returned (.bool true)∧w'=w:=by
 go_enter Tryz.func55,Tryz.ntmps55
 go_wp2
 go_loopw [5] (fun j wr=>j= .int .i64 0∧wr=w) (fun _ _=>0)
 case atStart=>exact⟨rfl,rfl⟩
 case round=>
  obtain⟨rfl,rfl⟩:=hrel
  go_wp2
  go_ret
  exact⟨rfl,rfl⟩
theorem markTrade(w:World)(s:Int):Calls Tryz.prog 60 #[.slice none 0 0,.int .i64 s] w fun e w'=>e= .returned (.int .i64 s)∧w'=w:=by
 go_enter Tryz.func60,Tryz.ntmps60
 go_wp2
 go_loopw [1,5] (fun m j wr=>m= .int .i64 s∧j= .int .i64 0∧wr=w) (fun _ _ _=>0)
 case atStart=>exact⟨rfl,rfl,rfl⟩
 case round=>
  obtain⟨rfl,rfl,rfl⟩:=hrel
  go_wp2
  go_ret
  exact⟨rfl,rfl⟩
theorem heldTrade(w:World)(s:Int):Calls Tryz.prog 65 #[.slice none 0 0,.int .i64 s] w fun e w'=>e= .returned (.int .i64 s)∧w'=w:=by
 go_enter Tryz.func65,Tryz.ntmps65
 go_wp2
 go_loopw [1,5] (fun m j wr=>m= .int .i64 s∧j= .int .i64 0∧wr=w) (fun _ _ _=>0)
 case atStart=>exact⟨rfl,rfl,rfl⟩
 case round=>
  obtain⟨rfl,rfl,rfl⟩:=hrel
  go_wp2
  go_ret
  exact⟨rfl,rfl⟩
theorem eqB0(w:World):Calls Tryz.prog 11 #[.agg #[.slice none 0 0,.slice none 0 0,.slice none 0 0,.slice none 0 0,.slice none 0 0,.int .i64 0],.agg #[.slice none 0 0,.slice none 0 0,.slice none 0 0,.slice none 0 0,.slice none 0 0,.int .i64 0]] w fun e w'=>e= .returned (.bool true)∧Below w.heap.size w w':=by
 have B:=zh (((Below.refl w.heap.size w).alloc (Nat.le_refl _) (.cells #[.slice none 0 0,.slice none 0 0,.slice none 0 0,.slice none 0 0,.slice none 0 0,.int .i64 0] 36)).alloc (by simp) (.cells #[.slice none 0 0,.slice none 0 0,.slice none 0 0,.slice none 0 0,.slice none 0 0,.int .i64 0] 36))
 go_enter Tryz.func11,Tryz.ntmps11
 go_wp2_with fail
 refine(eqAccount _).mono ?_
 rintro e uAccount ⟨rfl,rfl⟩
 go_wp2_with fail
 refine(eqInstr _).mono ?_
 rintro e uInstr ⟨rfl,rfl⟩
 go_wp2_with fail
 refine(eqBal _).mono ?_
 rintro e uBal ⟨rfl,rfl⟩
 go_wp2_with fail
 refine(eqLot _).mono ?_
 rintro e uLot ⟨rfl,rfl⟩
 go_wp2_with fail
 refine(eqTrade _).mono ?_
 rintro e uTrade ⟨rfl,rfl⟩
 go_wp2
 go_ret
 exact⟨rfl,zu B⟩
theorem markB0(w:World):Calls Tryz.prog 12 #[.agg #[.slice none 0 0,.slice none 0 0,.slice none 0 0,.slice none 0 0,.slice none 0 0,.int .i64 0],.int .i64 1] w fun e w'=>e= .returned (.int .i64 1)∧Below w.heap.size w w':=by
 have B:=zh ((Below.refl w.heap.size w).alloc (Nat.le_refl _) (.cells #[.slice none 0 0,.slice none 0 0,.slice none 0 0,.slice none 0 0,.slice none 0 0,.int .i64 0] 36))
 go_enter Tryz.func12,Tryz.ntmps12
 go_wp2_with fail
 refine(markAccount _ _).mono ?_
 rintro e uAccount ⟨rfl,rfl⟩
 go_wp2_with fail
 refine(markInstr _ _).mono ?_
 rintro e uInstr ⟨rfl,rfl⟩
 go_wp2_with fail
 refine(markBal _ _).mono ?_
 rintro e uBal ⟨rfl,rfl⟩
 go_wp2_with fail
 refine(markLot _ _).mono ?_
 rintro e uLot ⟨rfl,rfl⟩
 go_wp2_with fail
 refine(markTrade _ _).mono ?_
 rintro e uTrade ⟨rfl,rfl⟩
 go_wp2
 go_ret
 exact⟨rfl,zu B⟩
theorem heldB0(w:World):Calls Tryz.prog 13 #[.agg #[.slice none 0 0,.slice none 0 0,.slice none 0 0,.slice none 0 0,.slice none 0 0,.int .i64 0],.int .i64 1] w fun e w'=>e= .returned (.int .i64 1)∧Below w.heap.size w w':=by
 have B:=zh ((Below.refl w.heap.size w).alloc (Nat.le_refl _) (.cells #[.slice none 0 0,.slice none 0 0,.slice none 0 0,.slice none 0 0,.slice none 0 0,.int .i64 0] 36))
 go_enter Tryz.func13,Tryz.ntmps13
 go_wp2_with fail
 refine(heldAccount _ _).mono ?_
 rintro e uAccount ⟨rfl,rfl⟩
 go_wp2_with fail
 refine(heldInstr _ _).mono ?_
 rintro e uInstr ⟨rfl,rfl⟩
 go_wp2_with fail
 refine(heldBal _ _).mono ?_
 rintro e uBal ⟨rfl,rfl⟩
 go_wp2_with fail
 refine(heldLot _ _).mono ?_
 rintro e uLot ⟨rfl,rfl⟩
 go_wp2_with fail
 refine(heldTrade _ _).mono ?_
 rintro e uTrade ⟨rfl,rfl⟩
 go_wp2
 go_ret
 exact⟨rfl,zu B⟩
end BZero
namespace LawQ
open BMem Bks BHelp BkEq LawB
open IBalsFit (one_more)
structure QZ(w W:World)(y:Ix)(z:Bx)(pz:Nat):Prop where
 l:LB w W y
 bz:Bv W pz z
 oz:Ow W (w.heap.size+1) z
 uz:Up z pz
 n:w.heap.size<pz
theorem QZ.step{w W W':World}{y:Ix}{z:Bx}{pz:Nat}(h:QZ w W y z pz)(k:Below W.heap.size W W'):QZ w W' y z pz:=
 ⟨h.l.step k,h.bz.step k,h.oz.below k (Nat.le_refl _),h.uz,h.n⟩
structure QX(w W:World)(y:Ix)(z x:Bx)(pz px:Nat):Prop where
 q:QZ w W y z pz
 bx:Bv W px x
 ox:Ow W (pz+1) x
 ux:Up x px
 m:pz<px
theorem QX.step{w W W':World}{y:Ix}{z x:Bx}{pz px:Nat}(h:QX w W y z x pz px)(k:Below W.heap.size W W'):QX w W' y z x pz px:=
 ⟨h.q.step k,h.bx.step k,h.ox.below k (Nat.le_refl _),h.ux,h.m⟩
structure QG(w W:World)(y:Ix)(z x g:Bx)(pz px pg:Nat):Prop where
 q:QX w W y z x pz px
 bg:Bv W pg g
 og:Ow W (px+1) g
 ug:Up g pg
 k:px<pg
theorem QG.step{w W W':World}{y:Ix}{z x g:Bx}{pz px pg:Nat}(h:QG w W y z x g pz px pg)(k:Below W.heap.size W W'):QG w W' y z x g pz px pg:=
 ⟨h.q.step k,h.bg.step k,h.og.below k (Nat.le_refl _),h.ug,h.k⟩
structure QM(w W:World)(y:Ix)(z g:Bx)(pz pg:Nat):Prop where
 q:QZ w W y z pz
 bg:Bv W pg g
 og:Ow W (pz+1) g
 ug:Up g pg
 k:pz<pg
theorem QM.step{w W W':World}{y:Ix}{z g:Bx}{pz pg:Nat}(h:QM w W y z g pz pg)(k:Below W.heap.size W W'):QM w W' y z g pz pg:=
 ⟨h.q.step k,h.bg.step k,h.og.below k (Nat.le_refl _),h.ug,h.k⟩
theorem QG.turn{w W W':World}{y:Ix}{z x g:Bx}{pz px pg:Nat}(H:RdI w y)(h:QG w W y z x g pz px pg)(t:Turn x W W'):QM w W' y z g pz pg:=by
 have n:=h.q.q.n
 have m:=h.q.m
 have k:=h.k
 have lx:=ow_lo h.q.ox
 have lg:=ow_lo h.og
 exact⟨⟨LB.turn H h.q.q.l t (LawB.Lo.mono lx (by omega)),h.q.q.bz.turn t (.inl ⟨pz+1,by omega,lx⟩),t.ow h.q.q.oz (.inr ⟨pz,LawB.Lo.mono lx (by omega),h.q.q.uz⟩),h.q.q.uz,n⟩,h.bg.turn t (.inr ⟨px,by omega,h.q.ux⟩),(t.ow h.og (.inl ⟨px,h.q.ux,LawB.Lo.mono lg (by omega)⟩)).rebase (by omega),h.ug,by omega⟩
structure QH(w W:World)(y:Ix)(z g:Bx)(pz pg:Nat):Prop where
 q:QZ w W y z pz
 bg:Bv W pg g
 og:OwM W (pz+1) g
theorem QH.step{w W W':World}{y:Ix}{z g:Bx}{pz pg:Nat}(h:QH w W y z g pz pg)(k:Below W.heap.size W W'):QH w W' y z g pz pg:=
 ⟨h.q.step k,h.bg.step k,h.og.below k⟩
theorem QM.turn{w W W':World}{y:Ix}{z g:Bx}{pz pg:Nat}(H:RdI w y)(h:QM w W y z g pz pg)(t:Turn g W W')(o:OwM W' (pz+1) g):QH w W' y z g pz pg:=by
 have n:=h.q.n
 have k:=h.k
 have lg:=ow_lo h.og
 exact⟨⟨LB.turn H h.q.l t (LawB.Lo.mono lg (by omega)),h.q.bz.turn t (.inl ⟨pz+1,by omega,lg⟩),t.ow h.q.oz (.inr ⟨pz,LawB.Lo.mono lg (by omega),h.q.uz⟩),h.q.uz,n⟩,h.bg.turn t (.inr ⟨pg,Nat.le_refl _,h.ug⟩),o⟩
structure Zv(W:World)(g:Nat):Prop where
 c0:W.cell? ⟨g,0,none⟩=some (.slice none 0 0)
 c1:W.cell? ⟨g,1,none⟩=some (.slice none 0 0)
 c2:W.cell? ⟨g,2,none⟩=some (.slice none 0 0)
 c3:W.cell? ⟨g,3,none⟩=some (.slice none 0 0)
 c4:W.cell? ⟨g,4,none⟩=some (.slice none 0 0)
 c5:W.cell? ⟨g,5,none⟩=some (.int .i64 0)
 l:g<W.heap.size
theorem Zv.step{W W':World}{g:Nat}(h:Zv W g)(k:Below W.heap.size W W'):Zv W' g:=
 ⟨(k.cell (p:=⟨g,0,none⟩) h.l).trans h.c0,(k.cell (p:=⟨g,1,none⟩) h.l).trans h.c1,(k.cell (p:=⟨g,2,none⟩) h.l).trans h.c2,(k.cell (p:=⟨g,3,none⟩) h.l).trans h.c3,(k.cell (p:=⟨g,4,none⟩) h.l).trans h.c4,(k.cell (p:=⟨g,5,none⟩) h.l).trans h.c5,Nat.lt_of_lt_of_le h.l k.size⟩
theorem Zv.made(W:World)(e:TypeId):Zv (W.alloc (.cells #[.slice none 0 0,.slice none 0 0,.slice none 0 0,.slice none 0 0,.slice none 0 0,.int .i64 0] e)) W.heap.size:=⟨by simp,by simp,by simp,by simp,by simp,by simp,by simp⟩
theorem Zv.turn{W W':World}{g:Nat}{z:Bx}(h:Zv W g)(k:Turn z W W')(ne:(∃N,g<N∧Lo z N)∨∃N,N≤g∧Up z N):Zv W' g:=by
 have e:W'.heap[g]?=W.heap[g]?:=by
  refine k.block g h.l ?_ ?_ ?_ ?_ ?_
  all_goals
   rcases ne with⟨N,a,b⟩|⟨N,a,b⟩
   ·unfold Lo at b;omega
   ·unfold Up at b;omega
 have cc:∀i,W'.cell? ⟨g,i,none⟩=W.cell? ⟨g,i,none⟩:=fun i=>World.cell?_of_block (w:=W) (w':=W') (a:=⟨g,i,none⟩) e
 exact⟨(cc 0).trans h.c0,(cc 1).trans h.c1,(cc 2).trans h.c2,(cc 3).trans h.c3,(cc 4).trans h.c4,(cc 5).trans h.c5,Nat.lt_of_lt_of_le h.l k.size⟩
structure ZX(w W:World)(y:Ix)(x:Bx)(pz px:Nat):Prop where
 l:LB w W y
 zz:Zv W pz
 bx:Bv W px x
 ox:Ow W (pz+1) x
 ux:Up x px
 n:w.heap.size<pz
theorem ZX.step{w W W':World}{y:Ix}{x:Bx}{pz px:Nat}(h:ZX w W y x pz px)(k:Below W.heap.size W W'):ZX w W' y x pz px:=
 ⟨h.l.step k,h.zz.step k,h.bx.step k,h.ox.below k (Nat.le_refl _),h.ux,h.n⟩
structure ZG(w W:World)(y:Ix)(pz pg:Nat):Prop where
 l:LB w W y
 zz:Zv W pz
 zg:Zv W pg
theorem ZG.step{w W W':World}{y:Ix}{pz pg:Nat}(h:ZG w W y pz pg)(k:Below W.heap.size W W'):ZG w W' y pz pg:=
 ⟨h.l.step k,h.zz.step k,h.zg.step k⟩
theorem ZX.turn{w W W':World}{y:Ix}{x:Bx}{pz px pg:Nat}(H:RdI w y)(h:ZX w W y x pz px)(g:Zv W pg)(hg:px≤pg)(t:Turn x W W'):ZG w W' y pz pg:=by
 have n:=h.n
 have lx:=ow_lo h.ox
 exact⟨LB.turn H h.l t (LawB.Lo.mono lx (by omega)),h.zz.turn t (.inl ⟨pz+1,by omega,lx⟩),g.turn t (.inr ⟨px,hg,h.ux⟩)⟩
end LawQ
namespace LotApp
open Tup5
theorem info2:(Tryz.prog.info? 123).map (fun i=>(i.zero,i.size,i.bytes))=some (some (.agg #[.int .i64 0,.int .i64 0,.int .i64 0,.int .i64 0,.int .i64 0]),5,40):=by kernel_rfl
theorem wp_app(u:World){ops:Array Oper}{rest:List Oper}{o:Oper}{a:Act}{Q:Exit→Act→World→Prop}(hgd:o.guard=none)(s x:Operand)
  (ho:o.op= .call {callee:= .builtin .append,args:= #[s,x],argTypes:= #[33,33]})(base g n cap:Nat)(ps:List T5)(vb:Nat)(x0 x1 x2 x3 x4:Int)
  (hs:a.eval s= .slice (some ⟨g,0,none⟩) n cap)(hx:a.eval x= .slice (some ⟨vb,0,none⟩) 1 1)(hown:Own5 123 u base g n cap ps)(hv:Holds5 u vb 0 (x0,x1,x2,x3,x4))(hn:n≤1048576)(hb:base≤u.heap.size)
  (h:∀g' c' w',Own5 123 w' base g' (n+1) c' (ps++[(x0,x1,x2,x3,x4)])→u.grownBy w' (some g)→(g'=g∨g'=u.heap.size)→wpList Tryz.prog ops Q rest (a.put o.dst (.slice (some ⟨g',0,none⟩) (n+1) c')) w'):wpList Tryz.prog ops Q (o::rest) a u:=by
 obtain⟨i0,hi,hz0,hz1,hz2⟩:=info_parts info2
 have hat:At5 u vb [(x0,x1,x2,x3,x4)]:=by
  intro i hi
  obtain rfl:i=0:=by simpa using hi
  exact hv
 refine wpList_append_own_at u hgd s x 33 ho base 123 i0 (.agg #[.int .i64 0,.int .i64 0,.int .i64 0,.int .i64 0,.int .i64 0]) 5 40 Tryz.underlying33 hi hz0 hz1 hz2 rfl (by decide) _ n _ hs hown ⟨vb,0,none⟩ 1 1 (flat5 [(x0,x1,x2,x3,x4)]) hx rfl hat.cells (fun u hu=>flat5_one u _ hu) (by unfold maxLen;omega) (by omega) hb ?_
 intro v' w' own' gr' nil' loc'
 obtain⟨g',c',rfl,o'⟩:=own5_of_row (n':=n+1) (ps:=ps++[(x0,x1,x2,x3,x4)]) own' rfl (by rw[flat5_append]) (by rw[nil'];simp)
 exact h g' c' w' o' gr' (by simpa[Value.ownBlock] using loc')
end LotApp
namespace IPlace5
open Tup5 Lots Takes CmpL IOk5 Quieter
def IsKey(ps:List T5)(a i:Int)(c:Nat):Prop:=c≤ps.length∧(∀t,t<c→KLt (el5 ps t) a i)∧∀t,c≤t→t<ps.length→¬KLt (el5 ps t) a i
def Asc(ps:List T5):Prop:=∀j i,i<j→j<ps.length→Bef (el5 ps i) (el5 ps j)
theorem asc_right{ps:List T5}(h:Right ps):Asc ps:=asc_of (m:=ps.length) (Nat.le_refl _) h.2.1
theorem klt_down{p q:T5}{a i:Int}(h:Bef p q)(k:KLt q a i):KLt p a i:=by unfold Bef KLt at *;omega
theorem cmpK_klt(p:T5)(a i:Int):cmpK p.1 p.2.1 a i<0↔KLt p a i:=cmpK_lt _ _ _ _
theorem iCmpK(x0 x1 x2 x3 x4 a i:Int)(w:World):Calls Tryz.prog 201 #[.agg #[.int .i64 x0,.int .i64 x1,.int .i64 x2,.int .i64 x3,.int .i64 x4],.agg #[.int .i64 a,.int .i64 i]] w fun e w'=>e= .returned (.int .i64 (cmpK x0 x1 a i))∧Below w.heap.size w w':=by
 have B:=zh (show Below w.heap.size w ((w.alloc (.cells #[.int .i64 x0,.int .i64 x1,.int .i64 x2,.int .i64 x3,.int .i64 x4] 123)).alloc (.cells #[.int .i64 a,.int .i64 i] 177)) from((Below.refl _ _).alloc (Nat.le_refl _) _).alloc (by simp) _)
 have K:=zh (show((w.alloc (.cells #[.int .i64 x0,.int .i64 x1,.int .i64 x2,.int .i64 x3,.int .i64 x4] 123)).alloc (.cells #[.int .i64 a,.int .i64 i] 177)).cell? ⟨w.heap.size+1,0,none⟩=some (.int .i64 a)∧((w.alloc (.cells #[.int .i64 x0,.int .i64 x1,.int .i64 x2,.int .i64 x3,.int .i64 x4] 123)).alloc (.cells #[.int .i64 a,.int .i64 i] 177)).cell? ⟨w.heap.size+1,1,none⟩=some (.int .i64 i) from by simp)
 have X:=zh (show Holds5 ((w.alloc (.cells #[.int .i64 x0,.int .i64 x1,.int .i64 x2,.int .i64 x3,.int .i64 x4] 123)).alloc (.cells #[.int .i64 a,.int .i64 i] 177)) w.heap.size 0 (x0,x1,x2,x3,x4) from by unfold Holds5;simp)
 have hk:w.heap.size+1<((w.alloc (.cells #[.int .i64 x0,.int .i64 x1,.int .i64 x2,.int .i64 x3,.int .i64 x4] 123)).alloc (.cells #[.int .i64 a,.int .i64 i] 177)).heap.size:=by simp
 go_enter Tryz.func201,Tryz.ntmps201
 go_wp2_with fail
 generalize (w.alloc (.cells #[.int .i64 x0,.int .i64 x1,.int .i64 x2,.int .i64 x3,.int .i64 x4] 123)).alloc (.cells #[.int .i64 a,.int .i64 i] 177)=u at *
 obtain⟨h1,H1⟩:∃h1,Hid (h1=w.heap.size+1):=⟨_,rfl⟩
 obtain⟨h0,H0⟩:∃h0,Hid (h0=w.heap.size):=⟨_,rfl⟩
 rw[←zu H1] at hk K⊢
 rw[←zu H0] at X⊢
 have h01:h0<u.heap.size:=by have:=zu H0;have:=zu H1;omega
 obtain⟨c0,c1,c2,c3,c4⟩:=at0 (zu X)
 have C0:∀n:Near u,n.u.cell? ⟨h0,0,none⟩=some (.int .i64 x0):=fun n=>(n.b.cell (p:=⟨h0,0,none⟩) h01).trans c0
 have C1:∀n:Near u,n.u.cell? ⟨h0,1,none⟩=some (.int .i64 x1):=fun n=>(n.b.cell (p:=⟨h0,1,none⟩) h01).trans c1
 have C2:∀n:Near u,n.u.cell? ⟨h0,2,none⟩=some (.int .i64 x2):=fun n=>(n.b.cell (p:=⟨h0,2,none⟩) h01).trans c2
 have C3:∀n:Near u,n.u.cell? ⟨h0,3,none⟩=some (.int .i64 x3):=fun n=>(n.b.cell (p:=⟨h0,3,none⟩) h01).trans c3
 have C4:∀n:Near u,n.u.cell? ⟨h0,4,none⟩=some (.int .i64 x4):=fun n=>(n.b.cell (p:=⟨h0,4,none⟩) h01).trans c4
 have K0:∀n:Near u,n.u.cell? ⟨h1,0,none⟩=some (.int .i64 a):=fun n=>(n.b.cell (p:=⟨h1,0,none⟩) hk).trans (zu K).1
 have K1:∀n:Near u,n.u.cell? ⟨h1,1,none⟩=some (.int .i64 i):=fun n=>(n.b.cell (p:=⟨h1,1,none⟩) hk).trans (zu K).2
 have near:=near_is u
 refine quiet_near (by kernel_rfl) (by kernel_rfl) ?_
 repeat(go_big_quiet_step (first
  |(go_at_call 154
    rename_i nn
    refine(keyL _ _ _ _ _ nn.u).mono ?_
    rintro e u6 ⟨rfl,b6⟩
    exact⟨rfl,⟨u6,next nn.b b6⟩,rfl⟩)
  |(go_at_call 169
    rename_i nn
    refine(compareK _ _ _ _ nn.u).mono ?_
    rintro e u6 ⟨rfl,b6⟩
    exact⟨rfl,⟨u6,next nn.b b6⟩,rfl⟩)))
 refine wpQuiet_nil ?_
 rintro u9 ⟨⟨_,b9⟩,rfl⟩
 have BB:=zh (next (zu B) b9)
 clear b9
 go_wp2
 go_ret
 exact⟨rfl,zu BB⟩
theorem iSearchK(w:World)(g n cap:Nat)(ps:List T5)(a i:Int)(hl:ps.length=n)(h20:n≤1048576)(hg:g<w.heap.size)(h:At5 w g ps)(asc:Hid (Asc ps)):
  Calls Tryz.prog 200 #[.slice (some ⟨g,0,none⟩) n cap,.agg #[.int .i64 a,.int .i64 i],.func (.func 201) #[] #[]] w fun e w'=>∃c f,IsKey ps a i c∧e= .returned (.tuple #[.int .i64 (c:Nat),.bool f])∧Below w.heap.size w w':=by
 have B0:=zh (show Below w.heap.size w (w.alloc (.cells #[.int .i64 a,.int .i64 i] 177)) from(Below.refl _ _).alloc (Nat.le_refl _) _)
 have A0:=zh (h.below (zu B0) hg)
 have T0:=zh (show(w.alloc (.cells #[.int .i64 a,.int .i64 i] 177)).cell? ⟨w.heap.size,0,none⟩=some (.int .i64 a)∧(w.alloc (.cells #[.int .i64 a,.int .i64 i] 177)).cell? ⟨w.heap.size,1,none⟩=some (.int .i64 i) from by simp)
 have hs:w.heap.size<(w.alloc (.cells #[.int .i64 a,.int .i64 i] 177)).heap.size:=by simp
 have hg0:g<(w.alloc (.cells #[.int .i64 a,.int .i64 i] 177)).heap.size:=by simp;omega
 clear h
 go_enter Tryz.func200,Tryz.ntmps200
 go_wp2
 generalize w.alloc (.cells #[.int .i64 a,.int .i64 i] 177)=u at *
 go_loopw [9,10] (fun p q wr=>∃(lo hi:Nat),lo≤hi∧hi≤n∧p= .int .i64 lo∧q= .int .i64 hi∧Below u.heap.size u wr∧Hid ((∀t,t<lo→KLt (el5 ps t) a i)∧∀t,hi≤t→t<n→¬KLt (el5 ps t) a i)) (fun p q _=>(intOf q).toNat-(intOf p).toNat)
 case atStart=>exact⟨0,n,by omega,by omega,rfl,rfl,Below.refl _ _,zh ⟨fun t ht=>by omega,fun t h1 h2=>by omega⟩⟩
 case round=>
  obtain⟨lo,hi,hlh,hin,rfl,rfl,hb,HI⟩:=hrel
  have sz:=hb.size
  have h:=(zu A0).below hb hg0
  obtain⟨t0,t1⟩:wr.cell? ⟨w.heap.size,0,none⟩=some (.int .i64 a)∧wr.cell? ⟨w.heap.size,1,none⟩=some (.int .i64 i):=by
   have:=zu T0
   refine⟨(hb.cell (p:=⟨w.heap.size,0,none⟩) hs).trans this.1,(hb.cell (p:=⟨w.heap.size,1,none⟩) hs).trans this.2⟩
  have gw:g<wr.heap.size:=by omega
  have ws:w.heap.size<wr.heap.size:=by omega
  by_cases t:lo<hi
  ·obtain⟨m,hm⟩:∃m,m=(lo+hi)/2:=⟨_,rfl⟩
   obtain⟨e0,e1,e2,e3,e4⟩:=h m (by omega)
   have HB:=zh hb
   clear h hb
   have LOW:=zh (show KLt (el5 ps m) a i→∀t,t<m+1→KLt (el5 ps t) a i from fun hx t ht=>by
    by_cases e:t=m
    ·subst e;exact hx
    ·exact klt_down ((zu asc) m t (by omega) (by omega)) hx)
   have HIGH:=zh (show ¬KLt (el5 ps m) a i→∀t,m≤t→t<n→¬KLt (el5 ps t) a i from fun hx t h1 h2 k=>by
    by_cases e:t=m
    ·subst e;exact hx k
    ·exact hx (klt_down ((zu asc) t m (by omega) (by omega)) k))
   rw[show el5 ps m=((el5 ps m).1,(el5 ps m).2.1,(el5 ps m).2.2.1,(el5 ps m).2.2.2.1,(el5 ps m).2.2.2.2) from rfl] at LOW HIGH
   generalize (el5 ps m).1=x0 at *
   generalize (el5 ps m).2.1=x1 at *
   generalize (el5 ps m).2.2.1=x2 at *
   generalize (el5 ps m).2.2.2.1=x3 at *
   generalize (el5 ps m).2.2.2.2=x4 at *
   have hm':(((lo:Int)+(hi:Int))/2)=((m:Nat):Int):=by omega
   have M1:lo≤m:=by omega
   have M2:m<hi:=by omega
   have HM:=zh hm
   clear hm
   have C0:∀n:Near wr,n.u.cell? ⟨g,m*5,none⟩=some (.int .i64 x0):=fun n=>(n.b.cell (p:=⟨g,m*5,none⟩) gw).trans e0
   have C1:∀n:Near wr,n.u.cell? ⟨g,m*5+1,none⟩=some (.int .i64 x1):=fun n=>(n.b.cell (p:=⟨g,m*5+1,none⟩) gw).trans e1
   have C2:∀n:Near wr,n.u.cell? ⟨g,m*5+2,none⟩=some (.int .i64 x2):=fun n=>(n.b.cell (p:=⟨g,m*5+2,none⟩) gw).trans e2
   have C3:∀n:Near wr,n.u.cell? ⟨g,m*5+3,none⟩=some (.int .i64 x3):=fun n=>(n.b.cell (p:=⟨g,m*5+3,none⟩) gw).trans e3
   have C4:∀n:Near wr,n.u.cell? ⟨g,m*5+4,none⟩=some (.int .i64 x4):=fun n=>(n.b.cell (p:=⟨g,m*5+4,none⟩) gw).trans e4
   have D0:∀n:Near wr,n.u.cell? ⟨w.heap.size,0,none⟩=some (.int .i64 a):=fun n=>(n.b.cell (p:=⟨w.heap.size,0,none⟩) ws).trans t0
   have D1:∀n:Near wr,n.u.cell? ⟨w.heap.size,1,none⟩=some (.int .i64 i):=fun n=>(n.b.cell (p:=⟨w.heap.size,1,none⟩) ws).trans t1
   have near:=near_is wr
   have CL:=zh (show cmpK x0 x1 a i<0↔KLt (x0,x1,x2,x3,x4) a i from cmpK_klt (x0,x1,x2,x3,x4) a i)
   obtain⟨r,hr⟩:∃r,Hid (cmpK x0 x1 a i=r):=⟨_,rfl⟩
   go_wp2_with fail
   refine quiet_near (by kernel_rfl) (by kernel_rfl) ?_
   repeat(go_big_quiet_step (first
    |(rename_i nn
      refine(iCmpK x0 x1 x2 x3 x4 a i nn.u).mono ?_
      rintro e u6 ⟨rfl,b6⟩
      exact⟨rfl,⟨u6,next nn.b b6⟩,rfl⟩)))
   refine wpQuiet_nil ?_
   rintro u9 ⟨⟨_,b1⟩,rfl⟩
   rw[zu hr] at CL⊢
   have BB:=zh (next (zu HB) b1)
   by_cases lt:r<0
   ·have L:=zh ((zu LOW) ((zu CL).1 lt))
    clear b1 LOW HIGH CL HB C0 C1 C2 C3 C4 D0 D1 near
    go_wp2
    go_roundw
    case rel=>exact⟨m+1,hi,by omega,hin,by go_num,rfl,zu BB,zh ⟨zu L,(zu HI).2⟩⟩
    case measure=>simp[intOf];omega
   ·have L:=zh ((zu HIGH) (fun k=>lt ((zu CL).2 k)))
    clear b1 LOW HIGH CL HB C0 C1 C2 C3 C4 D0 D1 near
    go_wp2
    go_roundw
    case rel=>exact⟨lo,m,by omega,by omega,rfl,by go_num,zu BB,zh ⟨(zu HI).1,zu L⟩⟩
    case measure=>simp[intOf];omega
  ·obtain rfl:lo=hi:=by omega
   have PL:=zh (show IsKey ps a i lo from⟨by omega,(zu HI).1,fun t h1 h2=>(zu HI).2 t h1 (by omega)⟩)
   have HB:=zh (next (zu B0) hb)
   by_cases lt:lo<n
   ·obtain⟨e0,e1,e2,e3,e4⟩:=h lo (by omega)
    clear h HI
    generalize (el5 ps lo).1=x0 at *
    generalize (el5 ps lo).2.1=x1 at *
    generalize (el5 ps lo).2.2.1=x2 at *
    generalize (el5 ps lo).2.2.2.1=x3 at *
    generalize (el5 ps lo).2.2.2.2=x4 at *
    have C0:∀n:Near wr,n.u.cell? ⟨g,lo*5,none⟩=some (.int .i64 x0):=fun n=>(n.b.cell (p:=⟨g,lo*5,none⟩) gw).trans e0
    have C1:∀n:Near wr,n.u.cell? ⟨g,lo*5+1,none⟩=some (.int .i64 x1):=fun n=>(n.b.cell (p:=⟨g,lo*5+1,none⟩) gw).trans e1
    have C2:∀n:Near wr,n.u.cell? ⟨g,lo*5+2,none⟩=some (.int .i64 x2):=fun n=>(n.b.cell (p:=⟨g,lo*5+2,none⟩) gw).trans e2
    have C3:∀n:Near wr,n.u.cell? ⟨g,lo*5+3,none⟩=some (.int .i64 x3):=fun n=>(n.b.cell (p:=⟨g,lo*5+3,none⟩) gw).trans e3
    have C4:∀n:Near wr,n.u.cell? ⟨g,lo*5+4,none⟩=some (.int .i64 x4):=fun n=>(n.b.cell (p:=⟨g,lo*5+4,none⟩) gw).trans e4
    have D0:∀n:Near wr,n.u.cell? ⟨w.heap.size,0,none⟩=some (.int .i64 a):=fun n=>(n.b.cell (p:=⟨w.heap.size,0,none⟩) ws).trans t0
    have D1:∀n:Near wr,n.u.cell? ⟨w.heap.size,1,none⟩=some (.int .i64 i):=fun n=>(n.b.cell (p:=⟨w.heap.size,1,none⟩) ws).trans t1
    have near:=near_is wr
    go_wp2_with fail
    refine quiet_near (by kernel_rfl) (by kernel_rfl) ?_
    repeat(go_big_quiet_step (first
     |(rename_i nn
       refine(iCmpK x0 x1 x2 x3 x4 a i nn.u).mono ?_
       rintro e u6 ⟨rfl,b6⟩
       exact⟨rfl,⟨u6,next nn.b b6⟩,rfl⟩)))
    refine wpQuiet_nil ?_
    rintro u9 ⟨⟨_,b1⟩,rfl⟩
    have BB:=zh ((zu HB).trans (b1.mono (Nat.le_trans (zu B0).size sz)))
    clear b1 HB C0 C1 C2 C3 C4 D0 D1 near
    go_wp2
    go_ret2
    exact⟨lo,_,zu PL,rfl,zu BB⟩
   ·clear h HI hb
    go_wp2_with fail
    go_quiet (fail)
    have HB:=zh (below_drewN (zu HB) nq)
    go_wp2
    go_ret2
    exact⟨lo,_,zu PL,rfl,zu HB⟩
end IPlace5
namespace ICut
open Tup5 Lots Takes CmpL IOk5 Quieter IPlace5
def AtO(w:World)(g o:Nat)(ps:List T5):Prop:=∀i,i<ps.length→Holds5 w g (o+i*5) (el5 ps i)
theorem AtO.below{w w':World}{g o B:Nat}{ps:List T5}(h:AtO w g o ps)(k:Below B w w')(hg:g<B):AtO w' g o ps:=fun i hi=>(h i hi).below k hg
theorem at_o{w:World}{g:Nat}{ps:List T5}(h:At5 w g ps):AtO w g 0 ps:=fun i hi=>by rw[Nat.zero_add];exact h i hi
theorem o_take{w:World}{g:Nat}{ps:List T5}(h:At5 w g ps)(f:Nat):AtO w g 0 (ps.take f):=fun i hi=>by
 have hi:i<f∧i<ps.length:=by simp at hi;omega
 have e:el5 (ps.take f) i=el5 ps i:=by simp[el5,List.getD,hi.1,hi.2]
 rw[e,Nat.zero_add]
 exact h i hi.2
theorem o_drop{w:World}{g:Nat}{ps:List T5}(h:At5 w g ps)(u:Nat):AtO w g (u*5) (ps.drop u):=fun i hi=>by
 have hi:u+i<ps.length:=by simp at hi;omega
 have e:el5 (ps.drop u) i=el5 ps (u+i):=by simp[el5,List.getD]
 rw[e,show u*5+i*5=(u+i)*5 by omega]
 exact h (u+i) hi
theorem o_mid{w:World}{g:Nat}{ps:List T5}(h:At5 w g ps)(f u:Nat)(hf:f≤u)(hu:u≤ps.length):AtO w g (f*5) (midL ps f u):=fun i hi=>by
 rw[mid_len hf hu] at hi
 rw[mid_el hi,show f*5+i*5=(f+i)*5 by omega]
 exact h (f+i) (by omega)
theorem o_nil{w:World}{g o:Nat}{ps:List T5}(h:ps.length=0):AtO w g o ps:=fun i hi=>by omega
theorem cut_of{ps:List T5}{a i:Int}{f u:Nat}(asc:Asc ps)(hf:IsKey ps a i f)(hu:f≤u)(hl:u≤ps.length)(hm:∀t,f≤t→t<u→(el5 ps t).1=a∧(el5 ps t).2.1=i)(he:u<ps.length→¬((el5 ps u).1=a∧(el5 ps u).2.1=i)):Cut ps a i f u:=by
 refine⟨hu,hl,hf.2.1,hm,fun t ht hlt=>?_⟩
 have n1:=hf.2.2 u (by omega) (by omega)
 have n2:=he (by omega)
 by_cases e:t=u
 ·subst e
  unfold KLt at n1
  unfold KGt
  omega
 ·have b:=asc t u (by omega) hlt
  unfold KLt at n1
  unfold Bef at b
  unfold KGt
  omega
theorem iCut(w:World)(g n cap:Nat)(ps:List T5)(a i:Int)(hl:ps.length=n)(h20:n≤1048576)(hc:n≤cap)(hg:g<w.heap.size)(h:At5 w g ps)(asc:Hid (Asc ps)):
  Calls Tryz.prog 185 #[.slice (some ⟨g,0,none⟩) n cap,.int .i64 a,.int .i64 i] w fun e w'=>∃f u o1 o2 o3,Cut ps a i f u∧e= .returned (.agg #[.slice (some ⟨g,o1,none⟩) f f,.slice (some ⟨g,o2,none⟩) (u-f) (u-f),.slice (some ⟨g,o3,none⟩) (n-u) (n-u)])∧AtO w' g o1 (ps.take f)∧AtO w' g o2 (midL ps f u)∧AtO w' g o3 (ps.drop u)∧Below w.heap.size w w':=by
 have B0:=zh (show Below w.heap.size w ((w.alloc (.cells #[.slice none 0 0,.slice none 0 0,.slice none 0 0] 202)).alloc (.cells #[.int .i64 a,.int .i64 i] 177)) from((Below.refl _ _).alloc (Nat.le_refl _) _).alloc (by simp) _)
 have A0:=zh (h.below (zu B0) hg)
 have T0:=zh (show((w.alloc (.cells #[.slice none 0 0,.slice none 0 0,.slice none 0 0] 202)).alloc (.cells #[.int .i64 a,.int .i64 i] 177)).cell? ⟨w.heap.size+1,0,none⟩=some (.int .i64 a)∧((w.alloc (.cells #[.slice none 0 0,.slice none 0 0,.slice none 0 0] 202)).alloc (.cells #[.int .i64 a,.int .i64 i] 177)).cell? ⟨w.heap.size+1,1,none⟩=some (.int .i64 i) from by simp)
 have R0:=zh (show((w.alloc (.cells #[.slice none 0 0,.slice none 0 0,.slice none 0 0] 202)).alloc (.cells #[.int .i64 a,.int .i64 i] 177)).cell? ⟨w.heap.size,0,none⟩=some (.slice none 0 0)∧((w.alloc (.cells #[.slice none 0 0,.slice none 0 0,.slice none 0 0] 202)).alloc (.cells #[.int .i64 a,.int .i64 i] 177)).cell? ⟨w.heap.size,1,none⟩=some (.slice none 0 0)∧((w.alloc (.cells #[.slice none 0 0,.slice none 0 0,.slice none 0 0] 202)).alloc (.cells #[.int .i64 a,.int .i64 i] 177)).cell? ⟨w.heap.size,2,none⟩=some (.slice none 0 0) from by simp)
 have F0:=zh (show((w.alloc (.cells #[.slice none 0 0,.slice none 0 0,.slice none 0 0] 202)).alloc (.cells #[.int .i64 a,.int .i64 i] 177)).frozen? ⟨w.heap.size,0,none⟩=false∧((w.alloc (.cells #[.slice none 0 0,.slice none 0 0,.slice none 0 0] 202)).alloc (.cells #[.int .i64 a,.int .i64 i] 177)).frozen? ⟨w.heap.size,1,none⟩=false∧((w.alloc (.cells #[.slice none 0 0,.slice none 0 0,.slice none 0 0] 202)).alloc (.cells #[.int .i64 a,.int .i64 i] 177)).frozen? ⟨w.heap.size,2,none⟩=false from by simp)
 have hs:w.heap.size+1<((w.alloc (.cells #[.slice none 0 0,.slice none 0 0,.slice none 0 0] 202)).alloc (.cells #[.int .i64 a,.int .i64 i] 177)).heap.size:=by simp
 have hg0:g<((w.alloc (.cells #[.slice none 0 0,.slice none 0 0,.slice none 0 0] 202)).alloc (.cells #[.int .i64 a,.int .i64 i] 177)).heap.size:=by simp;omega
 have H:=zh h
 clear h
 go_enter Tryz.func185,Tryz.ntmps185
 go_wp2_with fail
 generalize (w.alloc (.cells #[.slice none 0 0,.slice none 0 0,.slice none 0 0] 202)).alloc (.cells #[.int .i64 a,.int .i64 i] 177)=u at *
 refine(iSearchK u g n cap ps a i hl h20 hg0 (zu A0) asc).mono ?_
 rintro e w1 ⟨f,ff,hf,rfl,b1⟩
 have B1:=zh b1
 have HF:=zh hf
 have fn:f≤n:=by have:=hf.1;omega
 clear b1 hf
 go_wp2
 go_loopw [10] (fun p wr=>∃(k:Nat),f≤k∧k≤n∧p= .int .i64 k∧Hid (Below u.heap.size u wr)∧Hid (∀t,f≤t→t<k→(el5 ps t).1=a∧(el5 ps t).2.1=i)) (fun p _=>n-(intOf p).toNat)
 case atStart=>exact⟨f,Nat.le_refl _,fn,rfl,B1,zh (fun t h1 h2=>by omega)⟩
 case round=>
  obtain⟨k,fk,hk,rfl,HB,HM⟩:=hrel
  have sz:=(zu HB).size
  have gw:g<wr.heap.size:=by omega
  have ws:w.heap.size+1<wr.heap.size:=by omega
  have ws0:w.heap.size<u.heap.size:=by omega
  have t0:wr.cell? ⟨w.heap.size+1,0,none⟩=some (.int .i64 a):=((zu HB).cell (p:=⟨w.heap.size+1,0,none⟩) hs).trans (zu T0).1
  have t1:wr.cell? ⟨w.heap.size+1,1,none⟩=some (.int .i64 i):=((zu HB).cell (p:=⟨w.heap.size+1,1,none⟩) hs).trans (zu T0).2
  by_cases t:k<n
  ·obtain⟨e0,e1,e2,e3,e4⟩:=(zu A0).below (zu HB) hg0 k (by omega)
   have kk:(k:Int)<(n:Int):=by omega
   have ON:=zh (show(el5 ps k).1=a∧(el5 ps k).2.1=i→∀t,f≤t→t<k+1→(el5 ps t).1=a∧(el5 ps t).2.1=i from fun hx t h1 h2=>by
    by_cases e:t=k
    ·subst e;exact hx
    ·exact(zu HM) t h1 (by omega))
   have OUT:=zh (show ¬((el5 ps k).1=a∧(el5 ps k).2.1=i)→(k<ps.length→¬((el5 ps k).1=a∧(el5 ps k).2.1=i)) from fun h _=>h)
   by_cases same:(el5 ps k).1=a∧(el5 ps k).2.1=i
   ·have M2:=zh ((zu ON) same)
    clear ON OUT HM
    obtain⟨q1,q2⟩:=same
    rw[q1] at e0
    rw[q2] at e1
    generalize (el5 ps k).2.2.1=x2 at *
    generalize (el5 ps k).2.2.2.1=x3 at *
    generalize (el5 ps k).2.2.2.2=x4 at *
    obtain⟨x0,rfl⟩:∃x0,x0=a:=⟨_,rfl⟩
    obtain⟨x1,rfl⟩:∃x1,x1=i:=⟨_,rfl⟩
    have C0:∀n:Near wr,n.u.cell? ⟨g,k*5,none⟩=some (.int .i64 x0):=fun n=>(n.b.cell (p:=⟨g,k*5,none⟩) gw).trans e0
    have C1:∀n:Near wr,n.u.cell? ⟨g,k*5+1,none⟩=some (.int .i64 x1):=fun n=>(n.b.cell (p:=⟨g,k*5+1,none⟩) gw).trans e1
    have C2:∀n:Near wr,n.u.cell? ⟨g,k*5+2,none⟩=some (.int .i64 x2):=fun n=>(n.b.cell (p:=⟨g,k*5+2,none⟩) gw).trans e2
    have C3:∀n:Near wr,n.u.cell? ⟨g,k*5+3,none⟩=some (.int .i64 x3):=fun n=>(n.b.cell (p:=⟨g,k*5+3,none⟩) gw).trans e3
    have C4:∀n:Near wr,n.u.cell? ⟨g,k*5+4,none⟩=some (.int .i64 x4):=fun n=>(n.b.cell (p:=⟨g,k*5+4,none⟩) gw).trans e4
    have D0:∀n:Near wr,n.u.cell? ⟨w.heap.size+1,0,none⟩=some (.int .i64 x0):=fun n=>(n.b.cell (p:=⟨w.heap.size+1,0,none⟩) ws).trans t0
    have D1:∀n:Near wr,n.u.cell? ⟨w.heap.size+1,1,none⟩=some (.int .i64 x1):=fun n=>(n.b.cell (p:=⟨w.heap.size+1,1,none⟩) ws).trans t1
    have near:=near_is wr
    have EQ:=eqKey x0 x1 x0 x1
    have GU:=guardKey
    go_wp2_with fail
    refine quiet_near (by kernel_rfl) (by kernel_rfl) ?_
    repeat(go_big_quiet_step (first
     |(go_at_call 154
       rename_i nn
       refine(keyL _ _ _ _ _ nn.u).mono ?_
       rintro e u6 ⟨rfl,b6⟩
       exact⟨rfl,⟨u6,next nn.b b6⟩,rfl⟩)))
    refine wpQuiet_nil ?_
    rintro u9 ⟨⟨_,b9⟩,rfl⟩
    have B9:=zh (next (zu HB) b9)
    clear b9 near C0 C1 C2 C3 C4 D0 D1 EQ GU
    go_wp2
    go_roundw
    case rel=>exact⟨k+1,by omega,by omega,by go_num,B9,M2⟩
    case measure=>simp[intOf];omega
   ·have OU:=zh ((zu OUT) same)
    clear ON OUT
    have ne:((el5 ps k).1==a&&(el5 ps k).2.1==i)=false:=by
     rw[Bool.and_eq_false_iff,beq_eq_false_iff_ne,beq_eq_false_iff_ne]
     omega
    generalize (el5 ps k).2.2.1=x2 at *
    generalize (el5 ps k).2.2.2.1=x3 at *
    generalize (el5 ps k).2.2.2.2=x4 at *
    obtain⟨x0,X0⟩:∃x0,(el5 ps k).1=x0:=⟨_,rfl⟩
    obtain⟨x1,X1⟩:∃x1,(el5 ps k).2.1=x1:=⟨_,rfl⟩
    rw[X0] at e0 ne
    rw[X1] at e1 ne
    clear X0 X1 same
    have C0:∀n:Near wr,n.u.cell? ⟨g,k*5,none⟩=some (.int .i64 x0):=fun n=>(n.b.cell (p:=⟨g,k*5,none⟩) gw).trans e0
    have C1:∀n:Near wr,n.u.cell? ⟨g,k*5+1,none⟩=some (.int .i64 x1):=fun n=>(n.b.cell (p:=⟨g,k*5+1,none⟩) gw).trans e1
    have C2:∀n:Near wr,n.u.cell? ⟨g,k*5+2,none⟩=some (.int .i64 x2):=fun n=>(n.b.cell (p:=⟨g,k*5+2,none⟩) gw).trans e2
    have C3:∀n:Near wr,n.u.cell? ⟨g,k*5+3,none⟩=some (.int .i64 x3):=fun n=>(n.b.cell (p:=⟨g,k*5+3,none⟩) gw).trans e3
    have C4:∀n:Near wr,n.u.cell? ⟨g,k*5+4,none⟩=some (.int .i64 x4):=fun n=>(n.b.cell (p:=⟨g,k*5+4,none⟩) gw).trans e4
    have D0:∀n:Near wr,n.u.cell? ⟨w.heap.size+1,0,none⟩=some (.int .i64 a):=fun n=>(n.b.cell (p:=⟨w.heap.size+1,0,none⟩) ws).trans t0
    have D1:∀n:Near wr,n.u.cell? ⟨w.heap.size+1,1,none⟩=some (.int .i64 i):=fun n=>(n.b.cell (p:=⟨w.heap.size+1,1,none⟩) ws).trans t1
    have near:=near_is wr
    have EQ:=eqKey x0 x1 a i
    have GU:=guardKey
    go_wp2_with fail
    refine quiet_near (by kernel_rfl) (by kernel_rfl) ?_
    repeat(go_big_quiet_step (first
     |(go_at_call 154
       rename_i nn
       refine(keyL _ _ _ _ _ nn.u).mono ?_
       rintro e u6 ⟨rfl,b6⟩
       exact⟨rfl,⟨u6,next nn.b b6⟩,rfl⟩)))
    refine wpQuiet_nil ?_
    rintro u9 ⟨⟨_,b9⟩,rfl⟩
    have B9:=zh (next (zu HB) b9)
    clear b9 near C0 C1 C2 C3 C4 D0 D1 EQ GU
    have CUT:=zh (show Cut ps a i f k from cut_of (zu asc) (zu HF) fk (by omega) (zu HM) (zu OU))
    have r0:u9.cell? ⟨w.heap.size,0,none⟩=some (.slice none 0 0):=((zu B9).cell (p:=⟨w.heap.size,0,none⟩) ws0).trans (zu R0).1
    have r1:u9.cell? ⟨w.heap.size,1,none⟩=some (.slice none 0 0):=((zu B9).cell (p:=⟨w.heap.size,1,none⟩) ws0).trans (zu R0).2.1
    have r2:u9.cell? ⟨w.heap.size,2,none⟩=some (.slice none 0 0):=((zu B9).cell (p:=⟨w.heap.size,2,none⟩) ws0).trans (zu R0).2.2
    have s0:u9.frozen? ⟨w.heap.size,0,none⟩=false:=((zu B9).frozen (p:=⟨w.heap.size,0,none⟩) ws0).trans (zu F0).1
    have s1:u9.frozen? ⟨w.heap.size,1,none⟩=false:=((zu B9).frozen (p:=⟨w.heap.size,1,none⟩) ws0).trans (zu F0).2.1
    have s2:u9.frozen? ⟨w.heap.size,2,none⟩=false:=((zu B9).frozen (p:=⟨w.heap.size,2,none⟩) ws0).trans (zu F0).2.2
    have j1:(f:Int)≤(n:Int):=by omega
    have j2:(k:Int)≤(n:Int):=by omega
    have j3:(f:Int)≤(k:Int):=by omega
    have j4:(n:Int)≤(cap:Int):=by omega
    have j5:(f:Int)≤(cap:Int):=by omega
    have j6:(k:Int)≤(cap:Int):=by omega
    clear HM HF
    have BW:=zh (show Below w.heap.size w u9 from(zu B0).trans ((zu B9).mono (by omega)))
    have NK:=zh (show n=k∨k<n by omega)
    go_wp2
    go_region
    by_cases kf:k=f
    ·simp only[if_pos kf]
     have FB:=zh (show Below w.heap.size w ((((u9.setCell ⟨w.heap.size,0,none⟩ (.slice (some ⟨g,0,none⟩) f f)).setCell ⟨w.heap.size,1,none⟩ (.slice (some ⟨g,0,none⟩) (k-f) (k-f))).setCell ⟨w.heap.size,2,none⟩ (.slice (some ⟨g,k*5,none⟩) (n-k) (n-k))).drew) from((((zu BW).setCell (p:=⟨w.heap.size,0,none⟩) (Nat.le_refl _) _).setCell (p:=⟨w.heap.size,1,none⟩) (Nat.le_refl _) _).setCell (p:=⟨w.heap.size,2,none⟩) (Nat.le_refl _) _).drew)
     have AT:=zh ((zu H).below (zu FB) hg)
     go_wp2
     refine bodyPost_ret (v:= .agg #[.slice (some ⟨g,0,none⟩) f f,.slice (some ⟨g,0,none⟩) (k-f) (k-f),.slice (some ⟨g,k*5,none⟩) (n-k) (n-k)]) (by simp[results,Tryz.results185,go_sem, *]) rfl ⟨f,k,0,0,k*5,zu CUT,rfl,o_take (zu AT) f,o_nil (by rw[mid_len (by omega) (by omega)];omega),o_drop (zu AT) k,zu FB⟩
    ·simp only[if_neg kf]
     have FB:=zh (show Below w.heap.size w ((((u9.setCell ⟨w.heap.size,0,none⟩ (.slice (some ⟨g,0,none⟩) f f)).setCell ⟨w.heap.size,1,none⟩ (.slice (some ⟨g,f*5,none⟩) (k-f) (k-f))).setCell ⟨w.heap.size,2,none⟩ (.slice (some ⟨g,k*5,none⟩) (n-k) (n-k))).drew) from((((zu BW).setCell (p:=⟨w.heap.size,0,none⟩) (Nat.le_refl _) _).setCell (p:=⟨w.heap.size,1,none⟩) (Nat.le_refl _) _).setCell (p:=⟨w.heap.size,2,none⟩) (Nat.le_refl _) _).drew)
     have AT:=zh ((zu H).below (zu FB) hg)
     go_wp2
     refine bodyPost_ret (v:= .agg #[.slice (some ⟨g,0,none⟩) f f,.slice (some ⟨g,f*5,none⟩) (k-f) (k-f),.slice (some ⟨g,k*5,none⟩) (n-k) (n-k)]) (by simp[results,Tryz.results185,go_sem, *]) rfl ⟨f,k,0,f*5,k*5,zu CUT,rfl,o_take (zu AT) f,o_mid (zu AT) f k (by omega) (by omega),o_drop (zu AT) k,zu FB⟩
  ·have kk:¬(k:Int)<(n:Int):=by omega
   go_wp2_with fail
   go_quiet (fail)
   have B9:=zh (below_drewN (zu HB) nq)
   generalize wr.drewN nq=u9 at *
   have CUT:=zh (show Cut ps a i f k from cut_of (zu asc) (zu HF) fk (by omega) (zu HM) (fun hx=>absurd hx (by omega)))
   have r0:u9.cell? ⟨w.heap.size,0,none⟩=some (.slice none 0 0):=((zu B9).cell (p:=⟨w.heap.size,0,none⟩) ws0).trans (zu R0).1
   have r1:u9.cell? ⟨w.heap.size,1,none⟩=some (.slice none 0 0):=((zu B9).cell (p:=⟨w.heap.size,1,none⟩) ws0).trans (zu R0).2.1
   have r2:u9.cell? ⟨w.heap.size,2,none⟩=some (.slice none 0 0):=((zu B9).cell (p:=⟨w.heap.size,2,none⟩) ws0).trans (zu R0).2.2
   have s0:u9.frozen? ⟨w.heap.size,0,none⟩=false:=((zu B9).frozen (p:=⟨w.heap.size,0,none⟩) ws0).trans (zu F0).1
   have s1:u9.frozen? ⟨w.heap.size,1,none⟩=false:=((zu B9).frozen (p:=⟨w.heap.size,1,none⟩) ws0).trans (zu F0).2.1
   have s2:u9.frozen? ⟨w.heap.size,2,none⟩=false:=((zu B9).frozen (p:=⟨w.heap.size,2,none⟩) ws0).trans (zu F0).2.2
   have j1:(f:Int)≤(n:Int):=by omega
   have j2:(k:Int)≤(n:Int):=by omega
   have j3:(f:Int)≤(k:Int):=by omega
   have j4:(n:Int)≤(cap:Int):=by omega
   have j5:(f:Int)≤(cap:Int):=by omega
   have j6:(k:Int)≤(cap:Int):=by omega
   clear HM HF
   have BW:=zh (show Below w.heap.size w u9 from(zu B0).trans ((zu B9).mono (by omega)))
   have NK:=zh (show n=k by omega)
   go_wp2
   go_region
   by_cases kf:k=f
   ·simp only[if_pos kf]
    have FB:=zh (show Below w.heap.size w ((((u9.setCell ⟨w.heap.size,0,none⟩ (.slice (some ⟨g,0,none⟩) f f)).setCell ⟨w.heap.size,1,none⟩ (.slice (some ⟨g,0,none⟩) (k-f) (k-f))).setCell ⟨w.heap.size,2,none⟩ (.slice (some ⟨g,0,none⟩) (n-k) (n-k))).drew) from((((zu BW).setCell (p:=⟨w.heap.size,0,none⟩) (Nat.le_refl _) _).setCell (p:=⟨w.heap.size,1,none⟩) (Nat.le_refl _) _).setCell (p:=⟨w.heap.size,2,none⟩) (Nat.le_refl _) _).drew)
    have AT:=zh ((zu H).below (zu FB) hg)
    go_wp2
    refine bodyPost_ret (v:= .agg #[.slice (some ⟨g,0,none⟩) f f,.slice (some ⟨g,0,none⟩) (k-f) (k-f),.slice (some ⟨g,0,none⟩) (n-k) (n-k)]) (by simp[results,Tryz.results185,go_sem, *]) rfl ⟨f,k,0,0,0,zu CUT,rfl,o_take (zu AT) f,o_nil (by rw[mid_len (by omega) (by omega)];omega),o_nil (by simp;omega),zu FB⟩
   ·simp only[if_neg kf]
    have FB:=zh (show Below w.heap.size w ((((u9.setCell ⟨w.heap.size,0,none⟩ (.slice (some ⟨g,0,none⟩) f f)).setCell ⟨w.heap.size,1,none⟩ (.slice (some ⟨g,f*5,none⟩) (k-f) (k-f))).setCell ⟨w.heap.size,2,none⟩ (.slice (some ⟨g,0,none⟩) (n-k) (n-k))).drew) from((((zu BW).setCell (p:=⟨w.heap.size,0,none⟩) (Nat.le_refl _) _).setCell (p:=⟨w.heap.size,1,none⟩) (Nat.le_refl _) _).setCell (p:=⟨w.heap.size,2,none⟩) (Nat.le_refl _) _).drew)
    have AT:=zh ((zu H).below (zu FB) hg)
    go_wp2
    refine bodyPost_ret (v:= .agg #[.slice (some ⟨g,0,none⟩) f f,.slice (some ⟨g,f*5,none⟩) (k-f) (k-f),.slice (some ⟨g,0,none⟩) (n-k) (n-k)]) (by simp[results,Tryz.results185,go_sem, *]) rfl ⟨f,k,0,f*5,0,zu CUT,rfl,o_take (zu AT) f,o_mid (zu AT) f k (by omega) (by omega),o_nil (by simp;omega),zu FB⟩
end ICut
namespace Cat5
open Tup5 Lots Takes ICut
open LotApp (info2)
theorem AtO.cells{w:World}{g o:Nat}{ps:List T5}(h:AtO w g o ps):∀(j:Nat) (u:Value),(flat5 ps)[j]?=some u→w.cell? ((⟨g,o,none⟩:Addr).add j)=some u:=by
 intro j u hj
 have hl:j<ps.length*5:=by
  have:=(List.getElem?_eq_some_iff.1 hj).1
  rw[flat5_len] at this
  exact this
 rw[Addr.add_lit]
 obtain⟨c0,c1,c2,c3,c4⟩:=h (j/5) (by omega)
 obtain⟨f0,f1,f2,f3,f4⟩:=flat5_get ps (j/5) (by omega)
 rcases(show j%5=0∨j%5=1∨j%5=2∨j%5=3∨j%5=4 by omega) with e|e|e|e|e
 ·rw[show o+j/5*5=o+j by omega] at c0
  rw[show j/5*5=j by omega] at f0
  rw[c0,←hj,f0]
 ·rw[show o+j/5*5+1=o+j by omega] at c1
  rw[show j/5*5+1=j by omega] at f1
  rw[c1,←hj,f1]
 ·rw[show o+j/5*5+2=o+j by omega] at c2
  rw[show j/5*5+2=j by omega] at f2
  rw[c2,←hj,f2]
 ·rw[show o+j/5*5+3=o+j by omega] at c3
  rw[show j/5*5+3=j by omega] at f3
  rw[c3,←hj,f3]
 ·rw[show o+j/5*5+4=o+j by omega] at c4
  rw[show j/5*5+4=j by omega] at f4
  rw[c4,←hj,f4]
theorem wp_cat(u:World){ops:Array Oper}{rest:List Oper}{o:Oper}{a:Act}{Q:Exit→Act→World→Prop}(hgd:o.guard=none)(s x:Operand)
  (ho:o.op= .call {callee:= .builtin .append,args:= #[s,x],argTypes:= #[33,33]})(base g n cap m:Nat)(ps qs:List T5)(vb off c:Nat)
  (hs:a.eval s= .slice (some ⟨g,0,none⟩) n cap)(hx:a.eval x= .slice (some ⟨vb,off,none⟩) m c)(hown:Own5 123 u base g n cap ps)(hl:qs.length=m)(hv:AtO u vb off qs)(hn:n+m≤1048576)(hb:base≤u.heap.size)
  (h:∀g' c' w',Own5 123 w' base g' (n+m) c' (ps++qs)→u.grownBy w' (some g)→(g'=g∨g'=u.heap.size)→wpList Tryz.prog ops Q rest (a.put o.dst (.slice (some ⟨g',0,none⟩) (n+m) c')) w'):wpList Tryz.prog ops Q (o::rest) a u:=by
 obtain⟨i0,hi,hz0,hz1,hz2⟩:=info_parts info2
 refine wpList_append_own_at u hgd s x 33 ho base 123 i0 (.agg #[.int .i64 0,.int .i64 0,.int .i64 0,.int .i64 0,.int .i64 0]) 5 40 Tryz.underlying33 hi hz0 hz1 hz2 rfl (by decide) _ n _ hs hown ⟨vb,off,none⟩ m c (flat5 qs) hx (by rw[flat5_len,hl]) (AtO.cells hv) (fun u hu=>flat5_one u _ hu) (by unfold maxLen;omega) (by omega) hb ?_
 intro v' w' own' gr' nil' loc'
 obtain⟨g',c',rfl,o'⟩:=own5_of_row (n':=n+m) (ps:=ps++qs) own' rfl (by rw[flat5_append]) (by rw[nil'];simp)
 exact h g' c' w' o' gr' (by simpa[Value.ownBlock] using loc')
theorem wp_copyO(u:World){ops:Array Oper}{rest:List Oper}{o:Oper}{a:Act}{Q:Exit→Act→World→Prop}(hgd:o.guard=none)(s x:Operand)
  (ho:o.op= .call {callee:= .builtin .append,args:= #[s,x],argTypes:= #[33,33]})(base g cap m:Nat)(qs:List T5)(vb off c:Nat)
  (hs:a.eval s= .slice (some ⟨g,0,none⟩) 0 cap)(hx:a.eval x= .slice (some ⟨vb,off,none⟩) m c)(hown:Own5 123 u base g 0 cap [])(hl:qs.length=m)(hv:AtO u vb off qs)(hn:m≤1048576)(hb:base≤u.heap.size)
  (h:∀g' c' w',Own5 123 w' base g' m c' qs→u.grownBy w' (some g)→(g'=g∨g'=u.heap.size)→wpList Tryz.prog ops Q rest (a.put o.dst (.slice (some ⟨g',0,none⟩) m c')) w'):wpList Tryz.prog ops Q (o::rest) a u:=by
 refine wp_cat u hgd s x ho base g 0 cap m [] qs vb off c hs hx hown hl hv (by omega) hb ?_
 intro g' c' w' o' gr' loc'
 rw[Nat.zero_add] at o'⊢
 exact h g' c' w' o' gr' loc'
end Cat5
namespace Concat5
open Tup5 Lots Takes ICut Cat5
open LotApp (info2)
def OwnV(e:TypeId)(w:World)(base:Nat)(v:Value)(ps:List T5):Prop:=w.ownsRow base e 5 v ps.length (flat5 ps)
theorem OwnV.cases{e:TypeId}{w:World}{base:Nat}{v:Value}{ps:List T5}(h:OwnV e w base v ps):(v= .slice none 0 0∧ps=[])∨∃g c,v= .slice (some ⟨g,0,none⟩) ps.length c∧Own5 e w base g ps.length c ps:=by
 rcases h.2 with⟨h1,h2⟩|⟨g,c,cur,h1,h2⟩
 ·exact .inl ⟨h1,List.eq_nil_of_length_eq_zero h2⟩
 ·refine .inr ⟨g,c,h1,?_⟩
  have h':w.ownsRow base e 5 v ps.length (flat5 ps):=h
  rw[h1] at h'
  exact h'
theorem OwnV.of{e:TypeId}{w:World}{base g n c:Nat}{ps:List T5}(h:Own5 e w base g n c ps):OwnV e w base (.slice (some ⟨g,0,none⟩) n c) ps:=by
 unfold OwnV
 rw[h.len]
 exact h
theorem OwnV.nil(e:TypeId)(w:World)(base:Nat):OwnV e w base (.slice none 0 0) []:=⟨rfl,.inl ⟨rfl,rfl⟩⟩
theorem OwnV.lt{e:TypeId}{w:World}{base:Nat}{v:Value}{ps:List T5}(h:OwnV e w base v ps):∀g,v.ownBlock=some g→base≤g∧g<w.heap.size:=fun g hg=>World.ownsRow.lt h g hg
theorem OwnV.below{e:TypeId}{w w':World}{base B:Nat}{v:Value}{ps:List T5}(h:OwnV e w base v ps)(k:Below B w w')(hB:∀g,v.ownBlock=some g→g<B):OwnV e w' base v ps:=by
 rcases h.cases with⟨rfl,rfl⟩|⟨g,c,rfl,o⟩
 ·exact OwnV.nil _ _ _
 ·exact OwnV.of (o.below k (hB g rfl))
theorem OwnV.kept{e:TypeId}{w w':World}{base:Nat}{row:Option Nat}{v:Value}{ps:List T5}(h:OwnV e w base v ps)(k:w.grownBy w' row)(hne:∀g,v.ownBlock=some g→row≠some g):OwnV e w' base v ps:=by
 rcases h.cases with⟨rfl,rfl⟩|⟨g,c,rfl,o⟩
 ·exact OwnV.nil _ _ _
 ·exact OwnV.of (o.kept k (fun e=>hne g rfl e.symm))
theorem OwnV.rebase{e:TypeId}{w:World}{base base':Nat}{v:Value}{ps:List T5}(h:OwnV e w base v ps)(hb:base'≤base):OwnV e w base' v ps:=by
 rcases h.cases with⟨rfl,rfl⟩|⟨g,c,rfl,o⟩
 ·exact OwnV.nil _ _ _
 ·exact OwnV.of (o.rebase (Nat.le_trans hb o.lt.1))
theorem wp_catV(u:World){ops:Array Oper}{rest:List Oper}{o:Oper}{a:Act}{Q:Exit→Act→World→Prop}(hgd:o.guard=none)(s x:Operand)
  (ho:o.op= .call {callee:= .builtin .append,args:= #[s,x],argTypes:= #[33,33]})(base m:Nat)(v:Value)(ps qs:List T5)(vb off c:Nat)
  (hs:a.eval s=v)(hx:a.eval x= .slice (some ⟨vb,off,none⟩) m c)(hown:OwnV 123 u base v ps)(hl:qs.length=m)(hv:AtO u vb off qs)(hn:ps.length+m≤1048576)(hb:base≤u.heap.size)
  (h:∀v' w',OwnV 123 w' base v' (ps++qs)→u.grownBy w' v.ownBlock→(v'.ownBlock=v.ownBlock∨v'.ownBlock=some u.heap.size)→wpList Tryz.prog ops Q rest (a.put o.dst v') w'):wpList Tryz.prog ops Q (o::rest) a u:=by
 obtain⟨i0,hi,hz0,hz1,hz2⟩:=info_parts info2
 refine wpList_append_own_at u hgd s x 33 ho base 123 i0 (.agg #[.int .i64 0,.int .i64 0,.int .i64 0,.int .i64 0,.int .i64 0]) 5 40 Tryz.underlying33 hi hz0 hz1 hz2 rfl (by decide) v ps.length _ hs hown ⟨vb,off,none⟩ m c (flat5 qs) hx (by rw[flat5_len,hl]) (AtO.cells hv) (fun u hu=>flat5_one u _ hu) (by unfold maxLen;omega) (by omega) hb ?_
 intro v' w' own' gr' nil' loc'
 refine h v' w' ?_ gr' loc'
 unfold OwnV
 rw[flat5_append,List.length_append,hl]
 exact own'
theorem grow_none(w:World):Calls Tryz.prog 216 #[.slice none 0 0,.int .i64 0] w fun e w'=>e= .returned (.slice none 0 0)∧Below w.heap.size w w':=by
 go_enter Tryz.func216,Tryz.ntmps216
 go_wp2
 go_ret
 exact⟨rfl,Below.refl _ _⟩
theorem grow_some(w:World)(k:Nat)(h0:0<k)(h20:k≤1048576):Calls Tryz.prog 216 #[.slice none 0 0,.int .i64 k] w fun e w'=>∃v,e= .returned v∧OwnV 123 w' w.heap.size v []∧Below w.heap.size w w':=by
 obtain⟨i0,hi,hz0,hz1,hz2⟩:=info_parts info2
 have kp:(0:Int)<(k:Int):=by omega
 have hold:(Builtin.firstCells i0.size 0 (.slice none 0 0)).run Tryz.prog w.drew= .ok ([]:List Value).toArray w.drew:=run_firstCells_none _ _ _ _ _
 obtain⟨G,hG⟩:∃G,G=grownCap w k 0 123:=⟨_,rfl⟩
 have hG1:k≤G:=by rw[hG];exact grownCap_ge w _ _ _
 have hG2:G≤maxLen:=by rw[hG];exact grownCap_le_maxLen w _ _ _ (by unfold maxLen;omega)
 obtain⟨ROW,hROW⟩:∃ROW:Array Value,ROW=([]:List Value).toArray++Builtin.zeroCells (Value.agg #[.int .i64 0,.int .i64 0,.int .i64 0,.int .i64 0,.int .i64 0]).cells k++Builtin.zeroCells (Value.agg #[.int .i64 0,.int .i64 0,.int .i64 0,.int .i64 0,.int .i64 0]).cells (G-k):=⟨_,rfl⟩
 have hrz:∀ty,(Builtin.append_ #[33,3] ty #[.slice none 0 0,.int .i64 (k:Int)]).run Tryz.prog w= .ok (.slice (some ⟨w.heap.size,0,none⟩) k G) (w.drew.alloc (.cells ROW 123)):=fun ty=>by
  have h:=Lib.run_append_grow_zeros w 33 3 ty 123 i0 _ .i64 .i64 Tryz.underlying33 Tryz.underlying3 hi hz0 none 0 0 [] hold k h0 (by rw[hz1];decide) (by omega) (by omega) (by rw[hz2];omega) (by rw[hz2];exact growslice_fits (by omega) (by omega))
  rw[Nat.zero_add,←hG,←hROW] at h
  exact h
 have hRs:ROW.size=G*5:=by
  rw[hROW]
  simp[Builtin.zeroCells,Value.cells]
  omega
 have OV:=zh (show OwnV 123 (w.drew.alloc (.cells ROW 123)) w.heap.size (.slice (some ⟨w.heap.size,0,none⟩) 0 G) [] from⟨rfl,.inr ⟨w.heap.size,G,ROW,rfl,Nat.le_refl _,heap_alloc_new w.drew _,Nat.zero_le _,hG2,hRs,by simp[flat5]⟩⟩)
 have BB:=zh (show Below w.heap.size w (w.drew.alloc (.cells ROW 123)) from(Below.refl _ _).drew.alloc (Nat.le_refl _) _)
 have G63:(G:Int)≤9223372036854775807:=by unfold maxLen at hG2;omega
 clear hold hROW hRs hG hi hz0 hz1 hz2
 go_enter Tryz.func216,Tryz.ntmps216
 go_wp2_with (first|(at_builtin;refine Lib.wpList_append_run _ rfl _ _ _ _ rfl _ _ rfl rfl _ _ (hrz _) ?_)|go_in)
 go_ret
 exact⟨_,rfl,zu OV,zu BB⟩
theorem iConcat(w:World)(b g1 o1 n1 c1 g2 o2 n2 c2 g3 o3 n3 c3:Nat)(p1 p2 p3:List T5)(l1:p1.length=n1)(l2:p2.length=n2)(l3:p3.length=n3)(h20:n1+n2+n3≤1048576)
  (hb:b<w.heap.size)(q1:g1<w.heap.size)(q2:g2<w.heap.size)(q3:g3<w.heap.size)(a1:AtO w g1 o1 p1)(a2:AtO w g2 o2 p2)(a3:AtO w g3 o3 p3)
  (s1:w.cell? ⟨b,0,none⟩=some (.slice (some ⟨g1,o1,none⟩) n1 c1))(s2:w.cell? ⟨b,1,none⟩=some (.slice (some ⟨g2,o2,none⟩) n2 c2))(s3:w.cell? ⟨b,2,none⟩=some (.slice (some ⟨g3,o3,none⟩) n3 c3)):
  Calls Tryz.prog 202 #[.slice (some ⟨b,0,none⟩) 3 3] w fun e w'=>∃v,e= .returned v∧OwnV 123 w' w.heap.size v (p1++(p2++p3))∧Below w.heap.size w w':=by
 have A1:=zh a1
 have A2:=zh a2
 have A3:=zh a3
 clear a1 a2 a3
 go_enter Tryz.func202,Tryz.ntmps202
 go_wp2
 go_loop [3,5,11] (fun q _ j=>∃(k:Nat) (z:Int),j= .int .i64 k∧q= .int .i64 z∧((k=0∧z=0)∨(k=1∧z=(n1:Int))∨(k=2∧z=(n1:Int)+(n2:Int))∨(k=3∧z=(n1:Int)+(n2:Int)+(n3:Int)))) (fun _ _ j=>3-(intOf j).toNat)
 case atStart=>exact⟨0,0,rfl,rfl,.inl ⟨rfl,rfl⟩⟩
 case round=>
  obtain⟨k,z,rfl,rfl,hk⟩:=hrel
  rcases hk with⟨rfl,rfl⟩|⟨rfl,rfl⟩|⟨rfl,rfl⟩|⟨rfl,rfl⟩
  ·go_wp2
   go_round
   case rel=>exact⟨1,(n1:Int),by go_num,by go_num,.inr (.inl ⟨rfl,rfl⟩)⟩
   case measure=>simp[intOf]
  ·go_wp2
   go_round
   case rel=>exact⟨2,(n1:Int)+(n2:Int),by go_num,by go_num,.inr (.inr (.inl ⟨rfl,rfl⟩))⟩
   case measure=>simp[intOf]
  ·go_wp2
   go_round
   case rel=>exact⟨3,(n1:Int)+(n2:Int)+(n3:Int),by go_num,by go_num,.inr (.inr (.inr ⟨rfl,rfl⟩))⟩
   case measure=>simp[intOf]
  ·have GR:=zh (show Calls Tryz.prog 216 #[.slice none 0 0,.int .i64 ((n1:Int)+(n2:Int)+(n3:Int))] w fun e w'=>∃v,e= .returned v∧OwnV 123 w' w.heap.size v []∧Below w.heap.size w w' from by
    by_cases z:n1+n2+n3=0
    ·rw[show(n1:Int)+(n2:Int)+(n3:Int)=0 by omega]
     exact(grow_none w).mono fun _ _ ⟨he,hb⟩=>⟨_,he,OwnV.nil _ _ _,hb⟩
    ·have:=grow_some w (n1+n2+n3) (by omega) h20
     rw[show((n1+n2+n3:Nat):Int)=(n1:Int)+(n2:Int)+(n3:Int) by omega] at this
     exact this)
   go_wp2_with fail
   refine(zu GR).mono ?_
   rintro e w1 ⟨v,rfl,ov,b1⟩
   have OV:=zh ov
   have B1:=zh b1
   clear ov b1 GR
   go_wp2
   go_loopw [6,8,27] (fun x _ j wr=>∃(k:Nat) (v:Value) (out:List T5),j= .int .i64 k∧v=x∧Hid (OwnV 123 wr w.heap.size v out)∧Hid (Below w.heap.size w wr)∧((k=0∧out=[])∨(k=1∧p1=out)∨(k=2∧out=p1++p2)∨(k=3∧out=p1++(p2++p3)))) (fun _ _ j _=>3-(intOf j).toNat)
   case atStart=>exact⟨0,v,[],rfl,rfl,OV,B1,.inl ⟨rfl,rfl⟩⟩
   case round=>
   clear OV B1
   obtain⟨k,v,out,rfl,rfl,OV,HB,hk⟩:=hrel
   rcases hk with⟨rfl,rfl⟩|⟨rfl,rfl⟩|⟨rfl,rfl⟩|⟨rfl,rfl⟩
   ·have s:wr.cell? ⟨b,0,none⟩=some (.slice (some ⟨g1,o1,none⟩) n1 c1):=((zu HB).cell (p:=⟨b,0,none⟩) hb).trans s1
    have A:=zh ((zu A1).below (zu HB) q1)
    have bs:=(zu HB).size
    have LN:=zh (show([]:List T5).length+n1≤1048576 from by(try simp);omega)
    go_wp2_with (first|(at_builtin;refine wp_catV _ rfl _ _ rfl w.heap.size n1 v ([]:List T5) p1 g1 o1 c1 rfl rfl (zu OV) l1 (zu A) (zu LN) bs ?_)|go_in)
    intro v5 w5 ov5 gr5 loc5
    have O5:=zh (show OwnV 123 w5 w.heap.size v5 (p1) from by have:=ov5;exact this)
    have B5:=zh ((zu HB).grown gr5 bs (fun j hj=>((zu OV).lt j hj).1))
    clear ov5 gr5 loc5 A s
    go_wp2
    go_roundw
    case rel=>exact⟨1,v5,p1,by go_num,rfl,O5,B5,.inr (.inl ⟨rfl,rfl⟩)⟩
    case measure=>simp[intOf]
   ·have s:wr.cell? ⟨b,1,none⟩=some (.slice (some ⟨g2,o2,none⟩) n2 c2):=((zu HB).cell (p:=⟨b,1,none⟩) hb).trans s2
    have A:=zh ((zu A2).below (zu HB) q2)
    have bs:=(zu HB).size
    have LN:=zh (show(p1).length+n2≤1048576 from by(try simp);omega)
    go_wp2_with (first|(at_builtin;refine wp_catV _ rfl _ _ rfl w.heap.size n2 v (p1) p2 g2 o2 c2 rfl rfl (zu OV) l2 (zu A) (zu LN) bs ?_)|go_in)
    intro v5 w5 ov5 gr5 loc5
    have O5:=zh (show OwnV 123 w5 w.heap.size v5 (p1++p2) from by have:=ov5;exact this)
    have B5:=zh ((zu HB).grown gr5 bs (fun j hj=>((zu OV).lt j hj).1))
    clear ov5 gr5 loc5 A s
    go_wp2
    go_roundw
    case rel=>exact⟨2,v5,p1++p2,by go_num,rfl,O5,B5,.inr (.inr (.inl ⟨rfl,rfl⟩))⟩
    case measure=>simp[intOf]
   ·have s:wr.cell? ⟨b,2,none⟩=some (.slice (some ⟨g3,o3,none⟩) n3 c3):=((zu HB).cell (p:=⟨b,2,none⟩) hb).trans s3
    have A:=zh ((zu A3).below (zu HB) q3)
    have bs:=(zu HB).size
    have LN:=zh (show(p1++p2).length+n3≤1048576 from by(try simp);omega)
    go_wp2_with (first|(at_builtin;refine wp_catV _ rfl _ _ rfl w.heap.size n3 v (p1++p2) p3 g3 o3 c3 rfl rfl (zu OV) l3 (zu A) (zu LN) bs ?_)|go_in)
    intro v5 w5 ov5 gr5 loc5
    have O5:=zh (show OwnV 123 w5 w.heap.size v5 (p1++(p2++p3)) from by first|exact ov5|(have:=ov5;rw[List.append_assoc] at this;exact this))
    have B5:=zh ((zu HB).grown gr5 bs (fun j hj=>((zu OV).lt j hj).1))
    clear ov5 gr5 loc5 A s
    go_wp2
    go_roundw
    case rel=>exact⟨3,v5,p1++(p2++p3),by go_num,rfl,O5,B5,.inr (.inr (.inr ⟨rfl,rfl⟩))⟩
    case measure=>simp[intOf]
   ·go_wp2
    go_ret
    exact⟨_,rfl,zu OV,zu HB⟩
end Concat5
namespace VHelp5
open Tup5 Lots Takes Concat5 LotHelp
theorem eq0(w:World)(g c:Nat):Calls Tryz.prog 54 #[.slice none 0 0,.slice (some ⟨g,0,none⟩) 0 c] w fun e w'=>e= .returned (.bool true)∧Below w.heap.size w w':=by
 go_enter Tryz.func54,Tryz.ntmps54
 go_wp2
 go_loopw [5] (fun j wr=>j= .int .i64 0∧wr=w) (fun _ _=>0)
 case atStart=>exact⟨rfl,rfl⟩
 case round=>
  obtain⟨rfl,rfl⟩:=hrel
  go_wp2
  go_ret
  exact⟨rfl,Below.refl _ _⟩
theorem mark0(w:World)(s:Int):Calls Tryz.prog 59 #[.slice none 0 0,.int .i64 s] w fun e w'=>e= .returned (.int .i64 s)∧w'=w:=by
 go_enter Tryz.func59,Tryz.ntmps59
 go_wp2
 go_loopw [1,5] (fun m j wr=>m= .int .i64 s∧j= .int .i64 0∧wr=w) (fun _ _ _=>0)
 case atStart=>exact⟨rfl,rfl,rfl⟩
 case round=>
  obtain⟨rfl,rfl,rfl⟩:=hrel
  go_wp2
  go_ret
  exact⟨rfl,rfl⟩
theorem held0(w:World)(s:Int):Calls Tryz.prog 64 #[.slice none 0 0,.int .i64 s] w fun e w'=>e= .returned (.int .i64 s)∧w'=w:=by
 go_enter Tryz.func64,Tryz.ntmps64
 go_wp2
 go_loopw [1,5] (fun m j wr=>m= .int .i64 s∧j= .int .i64 0∧wr=w) (fun _ _ _=>0)
 case atStart=>exact⟨rfl,rfl,rfl⟩
 case round=>
  obtain⟨rfl,rfl,rfl⟩:=hrel
  go_wp2
  go_ret
  exact⟨rfl,rfl⟩
end VHelp5
namespace AnyInv
open Go
section
variable {P:Program} {ops:Array Oper} {Q:Exit→Act→World→Prop} {md:Region.Mode}
theorem ready_mem{listed:Array Bool}{i:Nat}(h:i∈Region.ready md ops listed):∃o,ops[i]?=some o∧i<ops.size∧listed.getD i true=false∧∀e∈o.after,Region.binds md e=true→listed.getD e.on false=true:=by
 unfold Region.ready at h
 rw[List.mem_filter] at h
 obtain⟨h1,h2⟩:=h
 have hi:i<ops.size:=List.mem_range.1 h1
 have ho:ops[i]?=some ops[i]:=Array.getElem?_eq_getElem hi
 refine⟨ops[i],ho,hi,?_,?_⟩
 ·simp only[Bool.and_eq_true,Bool.not_eq_true'] at h2
  exact h2.1
 ·intro e he hb
  rw[ho] at h2
  simp only[Bool.and_eq_true,Option.map_some,Option.getD_some,Array.all_eq_true'] at h2
  have:=h2.2 e he
  simpa[hb] using this
theorem mem_ready{listed:Array Bool}{i:Nat}{o:Oper}(ho:ops[i]?=some o)(hl:listed.getD i true=false)(h:∀e∈o.after,Region.binds md e=true→listed.getD e.on false=true):i∈Region.ready md ops listed:=by
 unfold Region.ready
 rw[List.mem_filter]
 refine⟨List.mem_range.2 (Array.getElem?_eq_some_iff.1 ho).1,?_⟩
 rw[ho]
 simp only[Bool.and_eq_true,Bool.not_eq_true',Option.map_some,Option.getD_some,Array.all_eq_true']
 refine⟨hl,fun e he=>?_⟩
 by_cases hb:Region.binds md e=true
 ·simp[h e he hb]
 ·simp[hb]
theorem wpAny_inv(I:Array Bool→Act→World→Prop)
  (hsz:∀listed a w,I listed a w→listed.size=ops.size)
  (hback:∀i o,ops[i]?=some o→∀e∈o.after,Region.binds md e=true→e.on<i)
  (hstep:∀listed a w i o,I listed a w→ops[i]?=some o→listed.getD i true=false→(∀e∈o.after,Region.binds md e=true→listed.getD e.on false=true)→wpOp P ops Q i (I (listed.setIfInBounds i true)) a w)
  (hdone:∀listed a w,I listed a w→(∀i,i<ops.size→listed.getD i true=true)→Q .normal a w):
  ∀(fuel:Nat) (listed:Array Bool) (a:Act) (w:World) (L:List Nat),I listed a w→L.length≤fuel→(∀i,i<ops.size→listed.getD i true=false→i∈L)→wpAny P md ops Q fuel listed a w:=by
 intro fuel
 induction fuel with
 |zero=>
  intro listed a w L hI hL hM
  have hnil:L=[]:=List.length_eq_zero_iff.1 (by omega)
  subst hnil
  have all:∀i,i<ops.size→listed.getD i true=true:=fun i hi=>by
   cases h:listed.getD i true
   ·exact absurd (hM i hi h) List.not_mem_nil
   ·rfl
  refine⟨?_,hdone _ _ _ hI all⟩
  apply List.eq_nil_iff_forall_not_mem.2
  intro i hi
  obtain⟨o,ho,hlt,hl,_⟩:=ready_mem hi
  rw[all i hlt] at hl
  cases hl
 |succ fuel ih=>
  intro listed a w L hI hL hM
  refine⟨fun hr=>hdone _ _ _ hI ?_,fun i hi=>?_⟩
  ·intro i
   induction i using Nat.strongRecOn with
   |ind i ihi=>
    intro hi
    cases h:listed.getD i true
    ·exfalso
     have ho:ops[i]?=some ops[i]:=Array.getElem?_eq_getElem hi
     have:=mem_ready (md:=md) ho h (fun e he hb=>by
      have hlt:=hback i _ ho e he hb
      have h1:=ihi e.on hlt (by omega)
      have hs:=hsz _ _ _ hI
      have hin:e.on<listed.size:=by omega
      simp only[Array.getD,hin,dite_true] at h1⊢
      exact h1)
     rw[hr] at this
     cases this
    ·rfl
  ·obtain⟨o,ho,hlt,hl,hd⟩:=ready_mem hi
   have hmem:=hM i hlt hl
   refine wpOp_mono (fun a' w' hI'=>ih _ a' w' (L.erase i) hI' ?_ ?_) (hstep listed a w i o hI ho hl hd)
   ·rw[List.length_erase_of_mem hmem]
    omega
   ·intro j hj hjl
    have hs:=hsz _ _ _ hI
    by_cases e:j=i
    ·subst e
     have hin:j<listed.size:=by omega
     simp[Array.getD,hin] at hjl
    ·have:listed.getD j true=false:=by
      have hin:j<listed.size:=by omega
      have ne:i≠j:=fun h=>e h.symm
      simp only[Array.getD,Array.size_setIfInBounds,hin,dite_true] at hjl⊢
      have h2:(listed.setIfInBounds i true)[j]'(by simpa using hin)=listed[j]:=(Array.getElem_setIfInBounds hin).trans (if_neg ne)
      exact h2.symm.trans hjl
     exact(List.mem_erase_of_ne e).2 (hM j hj this)
theorem wp_region_inv(I:Array Bool→Act→World→Prop){id:Nat}{a:Act}{w:World}(hm:P.follows .mixedOrders=true)
  (hsz:∀listed a w,I listed a w→listed.size=ops.size)
  (hback:∀i o,ops[i]?=some o→∀e∈o.after,Region.binds .any e=true→e.on<i)
  (h0:I (Array.replicate ops.size false) a w.drew)
  (hstep:∀listed a w i o,I listed a w→ops[i]?=some o→listed.getD i true=false→(∀e∈o.after,Region.binds .any e=true→listed.getD e.on false=true)→wpOp P ops Q i (I (listed.setIfInBounds i true)) a w)
  (hdone:∀listed a w,I listed a w→(∀i,i<ops.size→listed.getD i true=true)→Q .normal a w):(Code.region id ops true).wp P Q a w:=
 wp_region_any hm (wpAny_inv I hsz hback hstep hdone ops.size _ a _ (List.range ops.size) h0 (by simp) (fun i hi _=>List.mem_range.2 hi))
def backB(ops:Array Oper):Bool:=(List.range ops.size).all fun i=>((ops[i]?).map fun o=>o.after.all fun e=>decide (e.on<i)).getD true
def waitsB(ops:Array Oper)(D:List (List Nat)):Bool:=(List.range ops.size).all fun i=>((ops[i]?).map fun o=>(D.getD i []).all fun j=>o.after.any fun e=>Region.binds .any e&&e.on==j).getD true
theorem back_of{ops:Array Oper}(h:backB ops=true):∀i o,ops[i]?=some o→∀e∈o.after,Region.binds .any e=true→e.on<i:=by
 intro i o ho e he _
 unfold backB at h
 rw[List.all_eq_true] at h
 have:=h i (List.mem_range.2 (Array.getElem?_eq_some_iff.1 ho).1)
 rw[ho] at this
 simp only[Option.map_some,Option.getD_some,Array.all_eq_true'] at this
 exact of_decide_eq_true (this e he)
theorem waits_of{ops:Array Oper}{D:List (List Nat)}(h:waitsB ops D=true){i:Nat}{o:Oper}(ho:ops[i]?=some o){listed:Array Bool}(hd:∀e∈o.after,Region.binds .any e=true→listed.getD e.on false=true):∀j∈D.getD i [],listed.getD j false=true:=by
 intro j hj
 unfold waitsB at h
 rw[List.all_eq_true] at h
 have:=h i (List.mem_range.2 (Array.getElem?_eq_some_iff.1 ho).1)
 rw[ho] at this
 simp only[Option.map_some,Option.getD_some,List.all_eq_true] at this
 have h2:=this j hj
 rw[Array.any_eq_true'] at h2
 obtain⟨e,he,hb⟩:=h2
 simp only[Bool.and_eq_true,beq_iff_eq] at hb
 rw[←hb.2]
 exact hd e he hb.1
theorem wp_region_inv2(D:List (List Nat))(I:Array Bool→Act→World→Prop){id:Nat}{a:Act}{w:World}(hm:P.follows .mixedOrders=true)(hb:backB ops=true)(hw:waitsB ops D=true)
  (hsz:∀listed a w,I listed a w→listed.size=ops.size)
  (h0:I (Array.replicate ops.size false) a w.drew)
  (hstep:∀listed a w i,I listed a w→i<ops.size→listed.getD i true=false→(∀j∈D.getD i [],listed.getD j false=true)→wpOp P ops Q i (I (listed.setIfInBounds i true)) a w)
  (hdone:∀listed a w,I listed a w→(∀i,i<ops.size→listed.getD i true=true)→Q .normal a w):(Code.region id ops true).wp P Q a w:=
 wp_region_inv I hm hsz (back_of hb) h0 (fun listed a w i o hI ho hl hd=>hstep listed a w i hI (Array.getElem?_eq_some_iff.1 ho).1 hl (waits_of hw ho hd)) hdone
theorem wpOp_of{i:Nat}{o:Oper}{K:Act→World→Prop}{a:Act}{w:World}(ho:ops[i]?=some o)(hg:o.guard=none)(h:o.wp P a w K Q):wpOp P ops Q i K a w:=by
 unfold wpOp
 rw[ho]
 have:Region.wanted o (yielded ops a.tmps)=true:=by simp[Region.wanted,hg]
 simp only[this,if_true]
 exact Or.inl h
end
end AnyInv
end Go.Proofs.YtnmeiiaipacplaaGreat
