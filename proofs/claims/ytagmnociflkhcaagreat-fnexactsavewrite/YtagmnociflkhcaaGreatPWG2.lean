/- Texts of one proof, one behind the other: AccountHelp, AccountMark, InstrHelp, InstrMark, BalHelp, LotHelp, TradeHelp, BHelp, BkEq, SBytes, ByteH, SPut11, SPuts11, SNums13, AccountSOk, InstrSOk, SBals, Legs, BalApp, LotApp, SSplit, SSeal11, Fil14, OpensF14, DiskH14, HelpF14, MarkF14. -/
import Derived.Test.YtagmnociflkhcaaGreatRows
import Derived.Test.YtagmnociflkhcaaGreatPWG1
import Derived.Deep.RegionHeld3
import Derived.WalkKit
import Derived.ProofKit
import Derived.OpenShut
import Derived.Below
import Derived.BigQuiet
import Derived.Maps.AppendAt
import Derived.Deep.Slices
import Derived.Deep.Strs
import Derived.ChangeSlices
import Derived.Laws.BytesArg
import Derived.Laws.Concat
set_option linter.unusedVariables false
set_option linter.unusedSimpArgs false
open Go.ChangeShapes Go.WideShapes Go.ChangeAt Go.RowKit
set_option maxRecDepth 100000
set_option maxHeartbeats 32000000
namespace Go.Proofs.YtagmnociflkhcaaGreat
namespace AccountHelp
open Pairs
theorem info2:(Tryz.prog.info? 143).map (fun i=>(i.zero,i.size,i.bytes))=some (some (.agg #[.int .i64 0,.int .i64 0]),2,16):=by kernel_rfl
theorem to1(w:World)(x y:Int):Calls Tryz.prog 104 #[.agg #[.int .i64 x,.int .i64 y]] w fun e w'=>e= .returned (.agg #[.int .i64 x,.int .i64 y])∧Below w.heap.size w w':=by
 go_enter Tryz.func104,Tryz.ntmps104
 go_wp2
 refine bodyPost_ret (v:= .agg #[.int .i64 x,.int .i64 y]) (by simp[results,Tryz.results104,go_sem]) rfl ⟨rfl,?_⟩
 exact(((Below.refl _ _).alloc (Nat.le_refl _) _).alloc (by simp) _).alloc (by simp;omega) _
theorem made_pairs(n:Nat):(madeCells (Value.agg #[.int .i64 0,.int .i64 0]).cells (n*2)).toList=flat (List.replicate n (0,0)):=by
 apply List.ext_getElem?
 intro j
 by_cases hj:j<n*2
 ·have hs:(Value.agg #[Value.int .i64 0,Value.int .i64 0]).cells= #[Value.int .i64 0,Value.int .i64 0]:=rfl
  rw[hs]
  obtain⟨f0,f1⟩:=flat_get (List.replicate n (0,0)) (j/2) (by simp;omega)
  have hg:(List.replicate n ((0:Int),(0:Int))).getD (j/2) (0,0)=(0,0):=by simp[List.getD,show j/2<n by omega]
  rw[hg] at f0 f1
  rcases(show j%2=0∨j%2=1 by omega) with e|e
  ·rw[show j/2*2=j by omega] at f0
   rw[f0]
   simp[madeCells,hj,e]
  ·rw[show j/2*2+1=j by omega] at f1
   rw[f1]
   simp[madeCells,hj,e]
 ·rw[List.getElem?_eq_none (by simp[madeCells];omega),List.getElem?_eq_none (by rw[flat_len];simp;omega)]
def part(ps:List (Int×Int))(n k:Nat):List (Int×Int):=ps.take k++List.replicate (n-k) (0,0)
theorem part_zero(ps:List (Int×Int))(n:Nat):part ps n 0=List.replicate n (0,0):=by simp[part]
theorem part_all(ps:List (Int×Int))(n:Nat)(h:ps.length=n):part ps n n=ps:=by
 unfold part
 rw[←h];simp
theorem part_step(ps:List (Int×Int))(n k:Nat)(h:ps.length=n)(hk:k<n):((part ps n k).modify k fun p=>((ps.getD k (0,0)).1,p.2)).modify k (fun p=>(p.1,(ps.getD k (0,0)).2))=part ps n (k+1):=by
 subst h
 unfold part
 apply List.ext_getElem?
 intro j
 have l1:(ps.take k).length=k:=by simp;omega
 have l2:(ps.take (k+1)).length=k+1:=by simp;omega
 rw[List.getElem?_modify,List.getElem?_modify]
 by_cases e:k=j
 ·subst e
  rw[List.getElem?_append_right (by omega),List.getElem?_append_left (by omega),List.getElem?_take,if_pos (by omega),l1]
  simp[List.getD,hk,show 0<ps.length-k by omega]
 ·by_cases l:j<k
  ·rw[List.getElem?_append_left (by omega),List.getElem?_append_left (by omega),List.getElem?_take,List.getElem?_take,if_pos l,if_pos (by omega)]
   simp[e]
  ·rw[List.getElem?_append_right (by omega),List.getElem?_append_right (by omega),l1,l2]
   simp only[List.getElem?_replicate]
   by_cases m:j<ps.length
   ·rw[if_pos (by omega),if_pos (by omega)];simp[e]
   ·rw[if_neg (by omega),if_neg (by omega)];simp[e]
theorem toS(w:World)(a:Option Addr)(len cap:Nat)(ps:List (Int×Int))(hl:ps.length=len)(h20:len≤1048576)(hr:Reads w a ps):
  Calls Tryz.prog 60 #[.slice a len cap] w fun e w'=>e= .returned (.slice (some ⟨w.heap.size,0,none⟩) len len)∧Own 143 w' w.heap.size w.heap.size len len ps∧Below w.heap.size w w':=by
 obtain⟨i0,hi,hz0,hz1,hz2⟩:=info_parts info2
 go_enter Tryz.func60,Tryz.ntmps60
 go_wp2_with (at_make;refine wpList_make_full _ rfl _ _ 34 rfl w.heap.size 143 i0 (.agg #[.int .i64 0,.int .i64 0]) 2 Tryz.underlying34 hi hz0 hz1 .i64 .i64 _ _ len rfl rfl rfl rfl (by rw[hz2];omega) (by unfold maxLen;omega) (Nat.le_refl _) ?_;intro w1 hown hgrow)
 rw[made_pairs,←part_zero ps] at hown
 have hb:=grownBy_below hgrow
 have hown:Own 143 w1 w.heap.size w.heap.size len len (part ps len 0):=hown
 clear hgrow
 go_loopw [4] (fun i wr=>∃(k:Nat),k≤len∧i= .int .i64 k∧Own 143 wr w.heap.size w.heap.size len len (part ps len k)∧Below w.heap.size w wr) (fun i _=>len-(intOf i).toNat)
 case atStart=>exact⟨0,by omega,rfl,hown,hb⟩
 case round=>
  clear hown hb
  obtain⟨k,hk,rfl,hown,hb⟩:=hrel
  by_cases t:k<len
  ·rcases hr with hz|⟨b,off,rfl,hlt,hcell⟩
   ·omega
   have hc0:=(hb.cell (p:=⟨b,off+k*2,none⟩) hlt).trans (hcell k (by omega)).1
   have hc1:=(hb.cell (p:=⟨b,off+k*2+1,none⟩) hlt).trans (hcell k (by omega)).2
   clear hcell
   have HO:=zh hown
   have HB:=zh hb
   clear hown hb
   generalize hx:(ps.getD k (0,0)).1=x at *
   generalize hy:(ps.getD k (0,0)).2=y at *
   have HX:=zh hx
   have HY:=zh hy
   clear hx hy
   go_wp2_with fail
   refine(to1 _ x y).mono ?_
   rintro e w2 ⟨rfl,b2⟩
   have o2:=(zu HO).below b2 (zu HO).lt.2
   have hb2:=(zu HB).trans (b2.mono (zu HB).size)
   clear HO HB b2 hc0 hc1
   have hs:=o2.set0 k x
   have hs2:=hs.1.set1 k y
   have hd:=o2.at k (by rw[o2.len];exact t)
   have hd0:=hd.1
   have hd1:=hd.2
   have hf0:=o2.free (k*2)
   have hf1:=o2.free (k*2+1)
   have HS:=zh hs2.1
   have HB:=zh ((hb2.setCell (p:=⟨w.heap.size,k*2,none⟩) (Nat.le_refl _) (.int .i64 x)).setCell (p:=⟨w.heap.size,k*2+1,none⟩) (Nat.le_refl _) (.int .i64 y))
   clear hs hs2 hd o2 hb2
   go_wp2
   go_roundw
   case rel=>
    have o:=zu HS
    rw[←zu HX,←zu HY] at o
    rw[part_step ps len k hl t] at o
    refine⟨k+1,by omega,by go_num,?_,zu HB⟩
    rw[←zu HX,←zu HY]
    exact o
   case measure=>simp[intOf];omega
  ·obtain rfl:k=len:=by omega
   rw[part_all ps k hl] at hown
   have HO:=zh hown
   have HB:=zh hb
   clear hown hb hr
   go_wp2
   go_ret
   exact⟨rfl,zu HO,zu HB⟩
theorem eq1(w:World)(x y:Int):Calls Tryz.prog 111 #[.agg #[.int .i64 x,.int .i64 y],.agg #[.int .i64 x,.int .i64 y]] w fun e w'=>e= .returned (.bool true)∧w'=(w.alloc (.cells #[.int .i64 x,.int .i64 y] 143)).alloc (.cells #[.int .i64 x,.int .i64 y] 143):=by
 go_enter Tryz.func111,Tryz.ntmps111
 go_wp2
 go_ret
 exact⟨rfl,rfl⟩
theorem two_more(w:World)(o p:Obj):Below w.heap.size w ((w.alloc o).alloc p).drew:=(((Below.refl _ _).alloc (Nat.le_refl _) _).alloc (by simp) _).drew
theorem eqS(w:World)(g1 g2 n c1 c2:Nat)(ps:List (Int×Int))(hl:ps.length=n)(h20:n≤1048576)(l1:g1<w.heap.size)(l2:g2<w.heap.size)(h1:At w g1 ps)(h2:At w g2 ps):
  Calls Tryz.prog 69 #[.slice (some ⟨g1,0,none⟩) n c1,.slice (some ⟨g2,0,none⟩) n c2] w fun e w'=>e= .returned (.bool true)∧Below w.heap.size w w':=by
 go_enter Tryz.func69,Tryz.ntmps69
 go_wp2
 go_loopw [5] (fun i wr=>∃(k:Nat),k≤n∧i= .int .i64 k∧At wr g1 ps∧At wr g2 ps∧Below w.heap.size w wr) (fun i _=>n-(intOf i).toNat)
 case atStart=>exact⟨0,by omega,rfl,h1,h2,Below.refl _ _⟩
 case round=>
  clear h1 h2
  obtain⟨k,hk,rfl,h1,h2,hb⟩:=hrel
  by_cases t:k<n
  ·obtain⟨e1,f1⟩:=h1 k (by omega)
   obtain⟨e2,f2⟩:=h2 k (by omega)
   have s:=hb.size
   have H1:=zh h1
   have H2:=zh h2
   have HB:=zh hb
   clear h1 h2 hb
   generalize (ps.getD k (0,0)).1=x at *
   generalize (ps.getD k (0,0)).2=y at *
   go_wp2_with fail
   go_region_held3 (fun w'=>w'.cell? ⟨g1,k*2,none⟩=some (.int .i64 x)∧w'.cell? ⟨g2,k*2,none⟩=some (.int .i64 x)∧w'.cell? ⟨g1,k*2+1,none⟩=some (.int .i64 y)∧w'.cell? ⟨g2,k*2+1,none⟩=some (.int .i64 y)) (go_keep)
    (first|(go_at_call 111;refine(eq1 _ _ _).mono ?_;rintro e w2 ⟨rfl,rfl⟩))
   all_goals(go_wp2;go_roundw)
   all_goals first
    |(have b2:=two_more wr (.cells #[.int .i64 x,.int .i64 y] 143) (.cells #[.int .i64 x,.int .i64 y] 143)
      exact⟨k+1,by omega,by go_num,(zu H1).below b2 (by omega),(zu H2).below b2 (by omega),next (zu HB) b2⟩)
    |(simp[intOf];omega)
  ·have HB:=zh hb
   clear h1 h2 hb
   go_wp2
   go_ret
   exact⟨rfl,zu HB⟩
end AccountHelp
namespace AccountMark
open Pairs
def marks(s:Int)(n:Nat):List (Int×Int):=(List.range n).map fun(i:Nat)=>(s+2*(i:Int),s+2*(i:Int)+1)
theorem marks_len(s:Int)(n:Nat):(marks s n).length=n:=by simp[marks]
theorem marks_getD(s:Int)(n i:Nat)(h:i<n):(marks s n).getD i (0,0)=(s+2*(i:Int),s+2*(i:Int)+1):=by simp[marks,List.getD,h]
def marked(s:Int)(ps:List (Int×Int))(n j:Nat):List (Int×Int):=(marks s n).take j++ps.drop j
theorem marked_zero(s:Int)(ps:List (Int×Int))(n:Nat):marked s ps n 0=ps:=by simp[marked]
theorem marked_all(s:Int)(ps:List (Int×Int))(n:Nat)(h:ps.length=n):marked s ps n n=marks s n:=by
 unfold marked
 rw[List.take_of_length_le (by rw[marks_len];exact Nat.le_refl _),List.drop_of_length_le (by omega),List.append_nil]
theorem marked_step(s:Int)(ps:List (Int×Int))(n j:Nat)(h:ps.length=n)(hj:j<n):((marked s ps n j).modify j fun p=>(s+2*(j:Int),p.2)).modify j (fun p=>(p.1,s+2*(j:Int)+1))=marked s ps n (j+1):=by
 unfold marked
 have l:=marks_len s n
 have g:=marks_getD s n j hj
 have l1:((marks s n).take j).length=j:=by simp;omega
 have l2:((marks s n).take (j+1)).length=j+1:=by simp;omega
 apply List.ext_getElem?
 intro i
 rw[List.getElem?_modify,List.getElem?_modify]
 by_cases e:j=i
 ·subst e
  rw[List.getElem?_append_right (by omega),List.getElem?_append_left (by omega),List.getElem?_take,if_pos (by omega),l1]
  have hg:(marks s n)[j]?=some (s+2*(j:Int),s+2*(j:Int)+1):=by
   rw[←g];simp[List.getD,l,hj]
  rw[hg]
  simp[List.getElem?_drop,h,hj]
 ·by_cases q:i<j
  ·rw[List.getElem?_append_left (by omega),List.getElem?_append_left (by omega),List.getElem?_take,List.getElem?_take,if_pos q,if_pos (by omega)]
   simp[e]
  ·rw[List.getElem?_append_right (by omega),List.getElem?_append_right (by omega),l1,l2]
   simp only[List.getElem?_drop]
   rw[show j+(i-j)=i by omega,show j+1+(i-(j+1))=i by omega]
   simp[e]
theorem markS(w:World)(base g n cap:Nat)(s:Int)(ps:List (Int×Int))(h20:n≤1048576)(s0:0≤s)(s1:s≤100000000)(ho:Own 143 w base g n cap ps):
  Calls Tryz.prog 90 #[.slice (some ⟨g,0,none⟩) n cap,.int .i64 s] w fun e w'=>e= .returned (.int .i64 (s+2*(n:Int)))∧Own 143 w' base g n cap (marks s n)∧w.grownBy w' (some g):=by
 have hl:=ho.len
 have ho':Own 143 w base g n cap (marked s ps n 0):=by rw[marked_zero];exact ho
 clear ho
 go_enter Tryz.func90,Tryz.ntmps90
 go_wp2
 go_loopw [1,5] (fun m i wr=>∃(k:Nat),k≤n∧i= .int .i64 k∧m= .int .i64 (s+2*(k:Int))∧Own 143 wr base g n cap (marked s ps n k)∧w.grownBy wr (some g)) (fun _ i _=>n-(intOf i).toNat)
 case atStart=>exact⟨0,by omega,rfl,by go_num,ho',World.grownBy.refl _ _⟩
 case round=>
  clear ho'
  obtain⟨k,hk,rfl,rfl,hown,hg⟩:=hrel
  by_cases t:k<n
  ·obtain⟨o1,q1⟩:=hown.set0 k (s+2*(k:Int))
   obtain⟨o2,q2⟩:=o1.set1 k (s+2*(k:Int)+1)
   obtain⟨hd0,hd1⟩:=hown.at k (by rw[Own.len hown];exact t)
   have hf0:=hown.free (k*2)
   have hf1:=hown.free (k*2+1)
   rw[marked_step s ps n k hl t] at o2
   have HO:=zh o2
   have HG:=zh (grown_trans (grown_trans hg q1) q2)
   clear hown hg o1 q1 o2 q2
   generalize ((marked s ps n k).getD k (0,0)).1=z0 at hd0
   generalize ((marked s ps n k).getD k (0,0)).2=z1 at hd1
   go_wp2
   go_roundw
   case rel=>exact⟨k+1,by omega,by go_num,by go_num,zu HO,zu HG⟩
   case measure=>simp[intOf];omega
  ·obtain rfl:k=n:=by omega
   rw[marked_all s ps k hl] at hown
   have HO:=zh hown
   have HG:=zh hg
   clear hown hg
   go_wp2
   go_ret
   exact⟨rfl,zu HO,zu HG⟩
theorem sz_yes(a:Option Addr)(len cap:Nat)(l:Int)(w:World)(h:(len:Int)≤l)(hl:l≤1048576):
  Calls Tryz.prog 51 #[.slice a len cap,.int .i64 l] w fun e w'=>e= .returned (.int .i64 (l-(len:Int)))∧w'=w:=by
 have h1:(0:Int)≤l-(len:Int):=by omega
 have h2:wrap64 (l-(len:Int))=l-(len:Int):=by rw[wrap64];omega
 go_enter Tryz.func51,Tryz.ntmps51
 go_wp2
 go_ret
 exact⟨rfl,rfl⟩
theorem sz_no(a:Option Addr)(len cap:Nat)(l:Int)(w:World)(h:¬(len:Int)≤l)(hl:l≤1048576)(h0:0≤l)(hm:len≤9223372036854775807):
  Calls Tryz.prog 51 #[.slice a len cap,.int .i64 l] w fun e w'=>e= .returned (.int .i64 (-1))∧w'=w:=by
 have h1:l-(len:Int)<0:=by omega
 have h2:wrap64 (l-(len:Int))=l-(len:Int):=by rw[wrap64];omega
 go_enter Tryz.func51,Tryz.ntmps51
 go_wp2
 go_ret
 exact⟨rfl,rfl⟩
end AccountMark
namespace InstrHelp
open Pairs
theorem info2:(Tryz.prog.info? 144).map (fun i=>(i.zero,i.size,i.bytes))=some (some (.agg #[.int .i64 0,.int .i64 0]),2,16):=by kernel_rfl
theorem to1(w:World)(x y:Int):Calls Tryz.prog 105 #[.agg #[.int .i64 x,.int .i64 y]] w fun e w'=>e= .returned (.agg #[.int .i64 x,.int .i64 y])∧Below w.heap.size w w':=by
 go_enter Tryz.func105,Tryz.ntmps105
 go_wp2
 refine bodyPost_ret (v:= .agg #[.int .i64 x,.int .i64 y]) (by simp[results,Tryz.results105,go_sem]) rfl ⟨rfl,?_⟩
 exact(((Below.refl _ _).alloc (Nat.le_refl _) _).alloc (by simp) _).alloc (by simp;omega) _
theorem made_pairs(n:Nat):(madeCells (Value.agg #[.int .i64 0,.int .i64 0]).cells (n*2)).toList=flat (List.replicate n (0,0)):=by
 apply List.ext_getElem?
 intro j
 by_cases hj:j<n*2
 ·have hs:(Value.agg #[Value.int .i64 0,Value.int .i64 0]).cells= #[Value.int .i64 0,Value.int .i64 0]:=rfl
  rw[hs]
  obtain⟨f0,f1⟩:=flat_get (List.replicate n (0,0)) (j/2) (by simp;omega)
  have hg:(List.replicate n ((0:Int),(0:Int))).getD (j/2) (0,0)=(0,0):=by simp[List.getD,show j/2<n by omega]
  rw[hg] at f0 f1
  rcases(show j%2=0∨j%2=1 by omega) with e|e
  ·rw[show j/2*2=j by omega] at f0
   rw[f0]
   simp[madeCells,hj,e]
  ·rw[show j/2*2+1=j by omega] at f1
   rw[f1]
   simp[madeCells,hj,e]
 ·rw[List.getElem?_eq_none (by simp[madeCells];omega),List.getElem?_eq_none (by rw[flat_len];simp;omega)]
def part(ps:List (Int×Int))(n k:Nat):List (Int×Int):=ps.take k++List.replicate (n-k) (0,0)
theorem part_zero(ps:List (Int×Int))(n:Nat):part ps n 0=List.replicate n (0,0):=by simp[part]
theorem part_all(ps:List (Int×Int))(n:Nat)(h:ps.length=n):part ps n n=ps:=by
 unfold part
 rw[←h];simp
theorem part_step(ps:List (Int×Int))(n k:Nat)(h:ps.length=n)(hk:k<n):((part ps n k).modify k fun p=>((ps.getD k (0,0)).1,p.2)).modify k (fun p=>(p.1,(ps.getD k (0,0)).2))=part ps n (k+1):=by
 subst h
 unfold part
 apply List.ext_getElem?
 intro j
 have l1:(ps.take k).length=k:=by simp;omega
 have l2:(ps.take (k+1)).length=k+1:=by simp;omega
 rw[List.getElem?_modify,List.getElem?_modify]
 by_cases e:k=j
 ·subst e
  rw[List.getElem?_append_right (by omega),List.getElem?_append_left (by omega),List.getElem?_take,if_pos (by omega),l1]
  simp[List.getD,hk,show 0<ps.length-k by omega]
 ·by_cases l:j<k
  ·rw[List.getElem?_append_left (by omega),List.getElem?_append_left (by omega),List.getElem?_take,List.getElem?_take,if_pos l,if_pos (by omega)]
   simp[e]
  ·rw[List.getElem?_append_right (by omega),List.getElem?_append_right (by omega),l1,l2]
   simp only[List.getElem?_replicate]
   by_cases m:j<ps.length
   ·rw[if_pos (by omega),if_pos (by omega)];simp[e]
   ·rw[if_neg (by omega),if_neg (by omega)];simp[e]
theorem toS(w:World)(a:Option Addr)(len cap:Nat)(ps:List (Int×Int))(hl:ps.length=len)(h20:len≤1048576)(hr:Reads w a ps):
  Calls Tryz.prog 61 #[.slice a len cap] w fun e w'=>e= .returned (.slice (some ⟨w.heap.size,0,none⟩) len len)∧Own 144 w' w.heap.size w.heap.size len len ps∧Below w.heap.size w w':=by
 obtain⟨i0,hi,hz0,hz1,hz2⟩:=info_parts info2
 go_enter Tryz.func61,Tryz.ntmps61
 go_wp2_with (at_make;refine wpList_make_full _ rfl _ _ 35 rfl w.heap.size 144 i0 (.agg #[.int .i64 0,.int .i64 0]) 2 Tryz.underlying35 hi hz0 hz1 .i64 .i64 _ _ len rfl rfl rfl rfl (by rw[hz2];omega) (by unfold maxLen;omega) (Nat.le_refl _) ?_;intro w1 hown hgrow)
 rw[made_pairs,←part_zero ps] at hown
 have hb:=grownBy_below hgrow
 have hown:Own 144 w1 w.heap.size w.heap.size len len (part ps len 0):=hown
 clear hgrow
 go_loopw [4] (fun i wr=>∃(k:Nat),k≤len∧i= .int .i64 k∧Own 144 wr w.heap.size w.heap.size len len (part ps len k)∧Below w.heap.size w wr) (fun i _=>len-(intOf i).toNat)
 case atStart=>exact⟨0,by omega,rfl,hown,hb⟩
 case round=>
  clear hown hb
  obtain⟨k,hk,rfl,hown,hb⟩:=hrel
  by_cases t:k<len
  ·rcases hr with hz|⟨b,off,rfl,hlt,hcell⟩
   ·omega
   have hc0:=(hb.cell (p:=⟨b,off+k*2,none⟩) hlt).trans (hcell k (by omega)).1
   have hc1:=(hb.cell (p:=⟨b,off+k*2+1,none⟩) hlt).trans (hcell k (by omega)).2
   clear hcell
   have HO:=zh hown
   have HB:=zh hb
   clear hown hb
   generalize hx:(ps.getD k (0,0)).1=x at *
   generalize hy:(ps.getD k (0,0)).2=y at *
   have HX:=zh hx
   have HY:=zh hy
   clear hx hy
   go_wp2_with fail
   refine(to1 _ x y).mono ?_
   rintro e w2 ⟨rfl,b2⟩
   have o2:=(zu HO).below b2 (zu HO).lt.2
   have hb2:=(zu HB).trans (b2.mono (zu HB).size)
   clear HO HB b2 hc0 hc1
   have hs:=o2.set0 k x
   have hs2:=hs.1.set1 k y
   have hd:=o2.at k (by rw[o2.len];exact t)
   have hd0:=hd.1
   have hd1:=hd.2
   have hf0:=o2.free (k*2)
   have hf1:=o2.free (k*2+1)
   have HS:=zh hs2.1
   have HB:=zh ((hb2.setCell (p:=⟨w.heap.size,k*2,none⟩) (Nat.le_refl _) (.int .i64 x)).setCell (p:=⟨w.heap.size,k*2+1,none⟩) (Nat.le_refl _) (.int .i64 y))
   clear hs hs2 hd o2 hb2
   go_wp2
   go_roundw
   case rel=>
    have o:=zu HS
    rw[←zu HX,←zu HY] at o
    rw[part_step ps len k hl t] at o
    refine⟨k+1,by omega,by go_num,?_,zu HB⟩
    rw[←zu HX,←zu HY]
    exact o
   case measure=>simp[intOf];omega
  ·obtain rfl:k=len:=by omega
   rw[part_all ps k hl] at hown
   have HO:=zh hown
   have HB:=zh hb
   clear hown hb hr
   go_wp2
   go_ret
   exact⟨rfl,zu HO,zu HB⟩
theorem eq1(w:World)(x y:Int):Calls Tryz.prog 112 #[.agg #[.int .i64 x,.int .i64 y],.agg #[.int .i64 x,.int .i64 y]] w fun e w'=>e= .returned (.bool true)∧w'=(w.alloc (.cells #[.int .i64 x,.int .i64 y] 144)).alloc (.cells #[.int .i64 x,.int .i64 y] 144):=by
 go_enter Tryz.func112,Tryz.ntmps112
 go_wp2
 go_ret
 exact⟨rfl,rfl⟩
theorem two_more(w:World)(o p:Obj):Below w.heap.size w ((w.alloc o).alloc p).drew:=(((Below.refl _ _).alloc (Nat.le_refl _) _).alloc (by simp) _).drew
theorem eqS(w:World)(g1 g2 n c1 c2:Nat)(ps:List (Int×Int))(hl:ps.length=n)(h20:n≤1048576)(l1:g1<w.heap.size)(l2:g2<w.heap.size)(h1:At w g1 ps)(h2:At w g2 ps):
  Calls Tryz.prog 70 #[.slice (some ⟨g1,0,none⟩) n c1,.slice (some ⟨g2,0,none⟩) n c2] w fun e w'=>e= .returned (.bool true)∧Below w.heap.size w w':=by
 go_enter Tryz.func70,Tryz.ntmps70
 go_wp2
 go_loopw [5] (fun i wr=>∃(k:Nat),k≤n∧i= .int .i64 k∧At wr g1 ps∧At wr g2 ps∧Below w.heap.size w wr) (fun i _=>n-(intOf i).toNat)
 case atStart=>exact⟨0,by omega,rfl,h1,h2,Below.refl _ _⟩
 case round=>
  clear h1 h2
  obtain⟨k,hk,rfl,h1,h2,hb⟩:=hrel
  by_cases t:k<n
  ·obtain⟨e1,f1⟩:=h1 k (by omega)
   obtain⟨e2,f2⟩:=h2 k (by omega)
   have s:=hb.size
   have H1:=zh h1
   have H2:=zh h2
   have HB:=zh hb
   clear h1 h2 hb
   generalize (ps.getD k (0,0)).1=x at *
   generalize (ps.getD k (0,0)).2=y at *
   go_wp2_with fail
   go_region_held3 (fun w'=>w'.cell? ⟨g1,k*2,none⟩=some (.int .i64 x)∧w'.cell? ⟨g2,k*2,none⟩=some (.int .i64 x)∧w'.cell? ⟨g1,k*2+1,none⟩=some (.int .i64 y)∧w'.cell? ⟨g2,k*2+1,none⟩=some (.int .i64 y)) (go_keep)
    (first|(go_at_call 112;refine(eq1 _ _ _).mono ?_;rintro e w2 ⟨rfl,rfl⟩))
   all_goals(go_wp2;go_roundw)
   all_goals first
    |(have b2:=two_more wr (.cells #[.int .i64 x,.int .i64 y] 144) (.cells #[.int .i64 x,.int .i64 y] 144)
      exact⟨k+1,by omega,by go_num,(zu H1).below b2 (by omega),(zu H2).below b2 (by omega),next (zu HB) b2⟩)
    |(simp[intOf];omega)
  ·have HB:=zh hb
   clear h1 h2 hb
   go_wp2
   go_ret
   exact⟨rfl,zu HB⟩
end InstrHelp
namespace InstrMark
open Pairs
def marks(s:Int)(n:Nat):List (Int×Int):=(List.range n).map fun(i:Nat)=>(s+2*(i:Int),s+2*(i:Int)+1)
theorem marks_len(s:Int)(n:Nat):(marks s n).length=n:=by simp[marks]
theorem marks_getD(s:Int)(n i:Nat)(h:i<n):(marks s n).getD i (0,0)=(s+2*(i:Int),s+2*(i:Int)+1):=by simp[marks,List.getD,h]
def marked(s:Int)(ps:List (Int×Int))(n j:Nat):List (Int×Int):=(marks s n).take j++ps.drop j
theorem marked_zero(s:Int)(ps:List (Int×Int))(n:Nat):marked s ps n 0=ps:=by simp[marked]
theorem marked_all(s:Int)(ps:List (Int×Int))(n:Nat)(h:ps.length=n):marked s ps n n=marks s n:=by
 unfold marked
 rw[List.take_of_length_le (by rw[marks_len];exact Nat.le_refl _),List.drop_of_length_le (by omega),List.append_nil]
theorem marked_step(s:Int)(ps:List (Int×Int))(n j:Nat)(h:ps.length=n)(hj:j<n):((marked s ps n j).modify j fun p=>(s+2*(j:Int),p.2)).modify j (fun p=>(p.1,s+2*(j:Int)+1))=marked s ps n (j+1):=by
 unfold marked
 have l:=marks_len s n
 have g:=marks_getD s n j hj
 have l1:((marks s n).take j).length=j:=by simp;omega
 have l2:((marks s n).take (j+1)).length=j+1:=by simp;omega
 apply List.ext_getElem?
 intro i
 rw[List.getElem?_modify,List.getElem?_modify]
 by_cases e:j=i
 ·subst e
  rw[List.getElem?_append_right (by omega),List.getElem?_append_left (by omega),List.getElem?_take,if_pos (by omega),l1]
  have hg:(marks s n)[j]?=some (s+2*(j:Int),s+2*(j:Int)+1):=by
   rw[←g];simp[List.getD,l,hj]
  rw[hg]
  simp[List.getElem?_drop,h,hj]
 ·by_cases q:i<j
  ·rw[List.getElem?_append_left (by omega),List.getElem?_append_left (by omega),List.getElem?_take,List.getElem?_take,if_pos q,if_pos (by omega)]
   simp[e]
  ·rw[List.getElem?_append_right (by omega),List.getElem?_append_right (by omega),l1,l2]
   simp only[List.getElem?_drop]
   rw[show j+(i-j)=i by omega,show j+1+(i-(j+1))=i by omega]
   simp[e]
theorem markS(w:World)(base g n cap:Nat)(s:Int)(ps:List (Int×Int))(h20:n≤1048576)(s0:0≤s)(s1:s≤100000000)(ho:Own 144 w base g n cap ps):
  Calls Tryz.prog 91 #[.slice (some ⟨g,0,none⟩) n cap,.int .i64 s] w fun e w'=>e= .returned (.int .i64 (s+2*(n:Int)))∧Own 144 w' base g n cap (marks s n)∧w.grownBy w' (some g):=by
 have hl:=ho.len
 have ho':Own 144 w base g n cap (marked s ps n 0):=by rw[marked_zero];exact ho
 clear ho
 go_enter Tryz.func91,Tryz.ntmps91
 go_wp2
 go_loopw [1,5] (fun m i wr=>∃(k:Nat),k≤n∧i= .int .i64 k∧m= .int .i64 (s+2*(k:Int))∧Own 144 wr base g n cap (marked s ps n k)∧w.grownBy wr (some g)) (fun _ i _=>n-(intOf i).toNat)
 case atStart=>exact⟨0,by omega,rfl,by go_num,ho',World.grownBy.refl _ _⟩
 case round=>
  clear ho'
  obtain⟨k,hk,rfl,rfl,hown,hg⟩:=hrel
  by_cases t:k<n
  ·obtain⟨o1,q1⟩:=hown.set0 k (s+2*(k:Int))
   obtain⟨o2,q2⟩:=o1.set1 k (s+2*(k:Int)+1)
   obtain⟨hd0,hd1⟩:=hown.at k (by rw[Own.len hown];exact t)
   have hf0:=hown.free (k*2)
   have hf1:=hown.free (k*2+1)
   rw[marked_step s ps n k hl t] at o2
   have HO:=zh o2
   have HG:=zh (grown_trans (grown_trans hg q1) q2)
   clear hown hg o1 q1 o2 q2
   generalize ((marked s ps n k).getD k (0,0)).1=z0 at hd0
   generalize ((marked s ps n k).getD k (0,0)).2=z1 at hd1
   go_wp2
   go_roundw
   case rel=>exact⟨k+1,by omega,by go_num,by go_num,zu HO,zu HG⟩
   case measure=>simp[intOf];omega
  ·obtain rfl:k=n:=by omega
   rw[marked_all s ps k hl] at hown
   have HO:=zh hown
   have HG:=zh hg
   clear hown hg
   go_wp2
   go_ret
   exact⟨rfl,zu HO,zu HG⟩
theorem sz_yes(a:Option Addr)(len cap:Nat)(l:Int)(w:World)(h:(len:Int)≤l)(hl:l≤1048576):
  Calls Tryz.prog 52 #[.slice a len cap,.int .i64 l] w fun e w'=>e= .returned (.int .i64 (l-(len:Int)))∧w'=w:=by
 have h1:(0:Int)≤l-(len:Int):=by omega
 have h2:wrap64 (l-(len:Int))=l-(len:Int):=by rw[wrap64];omega
 go_enter Tryz.func52,Tryz.ntmps52
 go_wp2
 go_ret
 exact⟨rfl,rfl⟩
theorem sz_no(a:Option Addr)(len cap:Nat)(l:Int)(w:World)(h:¬(len:Int)≤l)(hl:l≤1048576)(h0:0≤l)(hm:len≤9223372036854775807):
  Calls Tryz.prog 52 #[.slice a len cap,.int .i64 l] w fun e w'=>e= .returned (.int .i64 (-1))∧w'=w:=by
 have h1:l-(len:Int)<0:=by omega
 have h2:wrap64 (l-(len:Int))=l-(len:Int):=by rw[wrap64];omega
 go_enter Tryz.func52,Tryz.ntmps52
 go_wp2
 go_ret
 exact⟨rfl,rfl⟩
end InstrMark
namespace BalHelp
open Bals Triples
theorem info2:(Tryz.prog.info? 146).map (fun i=>(i.zero,i.size,i.bytes))=some (some (.agg #[.int .i64 0,.int .i64 0,.int .i64 0]),3,24):=by kernel_rfl
theorem to1(w:World)(x y z:Int):Calls Tryz.prog 106 #[.agg #[.int .i64 x,.int .i64 y,.int .i64 z]] w fun e w'=>e= .returned (.agg #[.int .i64 x,.int .i64 y,.int .i64 z])∧Below w.heap.size w w':=by
 go_enter Tryz.func106,Tryz.ntmps106
 go_wp2
 refine bodyPost_ret (v:= .agg #[.int .i64 x,.int .i64 y,.int .i64 z]) (by simp[results,Tryz.results106,go_sem]) rfl ⟨rfl,?_⟩
 exact(((Below.refl _ _).alloc (Nat.le_refl _) _).alloc (by simp) _).alloc (by simp;omega) _
theorem made_triples(n:Nat):(madeCells (Value.agg #[.int .i64 0,.int .i64 0,.int .i64 0]).cells (n*3)).toList=flat3 (List.replicate n (0,0,0)):=by
 apply List.ext_getElem?
 intro j
 by_cases hj:j<n*3
 ·have hs:(Value.agg #[Value.int .i64 0,Value.int .i64 0,Value.int .i64 0]).cells= #[Value.int .i64 0,Value.int .i64 0,Value.int .i64 0]:=rfl
  rw[hs]
  obtain⟨f0,f1,f2⟩:=flat3_get (List.replicate n (0,0,0)) (j/3) (by simp;omega)
  have hg:(List.replicate n ((0:Int),(0:Int),(0:Int))).getD (j/3) (0,0,0)=(0,0,0):=by simp[List.getD,show j/3<n by omega]
  unfold el3 at f0 f1 f2
  rw[hg] at f0 f1 f2
  rcases(show j%3=0∨j%3=1∨j%3=2 by omega) with e|e|e
  ·rw[show j/3*3=j by omega] at f0
   rw[f0]
   simp[madeCells,hj,e]
  ·rw[show j/3*3+1=j by omega] at f1
   rw[f1]
   simp[madeCells,hj,e]
  ·rw[show j/3*3+2=j by omega] at f2
   rw[f2]
   simp[madeCells,hj,e]
 ·rw[List.getElem?_eq_none (by simp[madeCells];omega),List.getElem?_eq_none (by rw[flat3_len];simp;omega)]
def part(ps:List T3)(n k:Nat):List T3:=ps.take k++List.replicate (n-k) (0,0,0)
theorem part_zero(ps:List T3)(n:Nat):part ps n 0=List.replicate n (0,0,0):=by simp[part]
theorem part_all(ps:List T3)(n:Nat)(h:ps.length=n):part ps n n=ps:=by
 unfold part
 rw[←h];simp
theorem part_step(ps:List T3)(n k:Nat)(h:ps.length=n)(hk:k<n):(((part ps n k).modify k fun p=>((el3 ps k).1,p.2)).modify k (fun p=>(p.1,(el3 ps k).2.1,p.2.2))).modify k (fun p=>(p.1,p.2.1,(el3 ps k).2.2))=part ps n (k+1):=by
 subst h
 unfold part
 apply List.ext_getElem?
 intro j
 have l1:(ps.take k).length=k:=by simp;omega
 have l2:(ps.take (k+1)).length=k+1:=by simp;omega
 rw[List.getElem?_modify,List.getElem?_modify,List.getElem?_modify]
 by_cases e:k=j
 ·subst e
  rw[List.getElem?_append_right (by omega),List.getElem?_append_left (by omega),List.getElem?_take,if_pos (by omega),l1]
  simp[List.getD,hk,show 0<ps.length-k by omega]
 ·by_cases l:j<k
  ·rw[List.getElem?_append_left (by omega),List.getElem?_append_left (by omega),List.getElem?_take,List.getElem?_take,if_pos l,if_pos (by omega)]
   simp[e]
  ·rw[List.getElem?_append_right (by omega),List.getElem?_append_right (by omega),l1,l2]
   simp only[List.getElem?_replicate]
   by_cases m:j<ps.length
   ·rw[if_pos (by omega),if_pos (by omega)];simp[e]
   ·rw[if_neg (by omega),if_neg (by omega)];simp[e]
theorem toS(w:World)(a:Option Addr)(len cap:Nat)(ps:List T3)(hl:ps.length=len)(h20:len≤1048576)(hr:Reads3 w a ps):
  Calls Tryz.prog 62 #[.slice a len cap] w fun e w'=>e= .returned (.slice (some ⟨w.heap.size,0,none⟩) len len)∧Own3 146 w' w.heap.size w.heap.size len len ps∧Below w.heap.size w w':=by
 obtain⟨i0,hi,hz0,hz1,hz2⟩:=info_parts info2
 go_enter Tryz.func62,Tryz.ntmps62
 go_wp2_with (at_make;refine wpList_make_full _ rfl _ _ 36 rfl w.heap.size 146 i0 (.agg #[.int .i64 0,.int .i64 0,.int .i64 0]) 3 Tryz.underlying36 hi hz0 hz1 .i64 .i64 _ _ len rfl rfl rfl rfl (by rw[hz2];omega) (by unfold maxLen;omega) (Nat.le_refl _) ?_;intro w1 hown hgrow)
 rw[made_triples,←part_zero ps] at hown
 have hb:=grownBy_below hgrow
 have hown:Own3 146 w1 w.heap.size w.heap.size len len (part ps len 0):=hown
 clear hgrow
 go_loopw [4] (fun i wr=>∃(k:Nat),k≤len∧i= .int .i64 k∧Own3 146 wr w.heap.size w.heap.size len len (part ps len k)∧Below w.heap.size w wr) (fun i _=>len-(intOf i).toNat)
 case atStart=>exact⟨0,by omega,rfl,hown,hb⟩
 case round=>
  clear hown hb
  obtain⟨k,hk,rfl,hown,hb⟩:=hrel
  by_cases t:k<len
  ·rcases hr with hz|⟨b,off,rfl,hlt,hcell⟩
   ·omega
   have hc0:=(hb.cell (p:=⟨b,off+k*3,none⟩) hlt).trans (hcell k (by omega)).1
   have hc1:=(hb.cell (p:=⟨b,off+k*3+1,none⟩) hlt).trans (hcell k (by omega)).2.1
   have hc2:=(hb.cell (p:=⟨b,off+k*3+2,none⟩) hlt).trans (hcell k (by omega)).2.2
   clear hcell
   have HO:=zh hown
   have HB:=zh hb
   clear hown hb
   have PS:=zh (part_step ps len k hl t)
   generalize (el3 ps k).1=x at *
   generalize (el3 ps k).2.1=y at *
   generalize (el3 ps k).2.2=z at *
   go_wp2_with fail
   refine(to1 _ x y z).mono ?_
   rintro e w2 ⟨rfl,b2⟩
   have o2:=(zu HO).below b2 (zu HO).lt.2
   have hb2:=(zu HB).trans (b2.mono (zu HB).size)
   clear HO HB b2 hc0 hc1 hc2
   have hs:=o2.set0 k x
   have hs2:=hs.1.set1 k y
   have hs3:=hs2.1.set2 k z
   have hd:=o2.at k (by rw[o2.len];exact t)
   have hd0:=hd.1
   have hd1:=hd.2.1
   have hd2:=hd.2.2
   have hf0:=o2.free (k*3)
   have hf1:=o2.free (k*3+1)
   have hf2:=o2.free (k*3+2)
   have HS:=zh hs3.1
   have HB:=zh (((hb2.setCell (p:=⟨w.heap.size,k*3,none⟩) (Nat.le_refl _) (.int .i64 x)).setCell (p:=⟨w.heap.size,k*3+1,none⟩) (Nat.le_refl _) (.int .i64 y)).setCell (p:=⟨w.heap.size,k*3+2,none⟩) (Nat.le_refl _) (.int .i64 z))
   clear hs hs2 hs3 hd o2 hb2
   go_wp2
   go_roundw
   case rel=>
    have o:=zu HS
    rw[zu PS] at o
    exact⟨k+1,by omega,by go_num,o,zu HB⟩
   case measure=>simp[intOf];omega
  ·obtain rfl:k=len:=by omega
   rw[part_all ps k hl] at hown
   have HO:=zh hown
   have HB:=zh hb
   clear hown hb hr
   go_wp2
   go_ret
   exact⟨rfl,zu HO,zu HB⟩
theorem eq1(w:World)(x y z:Int):Calls Tryz.prog 113 #[.agg #[.int .i64 x,.int .i64 y,.int .i64 z],.agg #[.int .i64 x,.int .i64 y,.int .i64 z]] w fun e w'=>e= .returned (.bool true)∧w'=(w.alloc (.cells #[.int .i64 x,.int .i64 y,.int .i64 z] 146)).alloc (.cells #[.int .i64 x,.int .i64 y,.int .i64 z] 146):=by
 go_enter Tryz.func113,Tryz.ntmps113
 go_wp2
 go_ret
 exact⟨rfl,rfl⟩
theorem two_more(w:World)(o p:Obj):Below w.heap.size w ((w.alloc o).alloc p).drew:=(((Below.refl _ _).alloc (Nat.le_refl _) _).alloc (by simp) _).drew
theorem eqS(w:World)(g1 g2 n c1 c2:Nat)(ps:List T3)(hl:ps.length=n)(h20:n≤1048576)(l1:g1<w.heap.size)(l2:g2<w.heap.size)(h1:At3 w g1 ps)(h2:At3 w g2 ps):
  Calls Tryz.prog 71 #[.slice (some ⟨g1,0,none⟩) n c1,.slice (some ⟨g2,0,none⟩) n c2] w fun e w'=>e= .returned (.bool true)∧Below w.heap.size w w':=by
 go_enter Tryz.func71,Tryz.ntmps71
 go_wp2
 go_loopw [5] (fun i wr=>∃(k:Nat),k≤n∧i= .int .i64 k∧At3 wr g1 ps∧At3 wr g2 ps∧Below w.heap.size w wr) (fun i _=>n-(intOf i).toNat)
 case atStart=>exact⟨0,by omega,rfl,h1,h2,Below.refl _ _⟩
 case round=>
  clear h1 h2
  obtain⟨k,hk,rfl,h1,h2,hb⟩:=hrel
  by_cases t:k<n
  ·obtain⟨e1,f1,i1⟩:=h1 k (by omega)
   obtain⟨e2,f2,i2⟩:=h2 k (by omega)
   have s:=hb.size
   have H1:=zh h1
   have H2:=zh h2
   have HB:=zh hb
   clear h1 h2 hb
   generalize (el3 ps k).1=x at *
   generalize (el3 ps k).2.1=y at *
   generalize (el3 ps k).2.2=z at *
   go_wp2_with fail
   go_region_held3 (fun w'=>w'.cell? ⟨g1,k*3,none⟩=some (.int .i64 x)∧w'.cell? ⟨g2,k*3,none⟩=some (.int .i64 x)∧w'.cell? ⟨g1,k*3+1,none⟩=some (.int .i64 y)∧w'.cell? ⟨g2,k*3+1,none⟩=some (.int .i64 y)∧w'.cell? ⟨g1,k*3+2,none⟩=some (.int .i64 z)∧w'.cell? ⟨g2,k*3+2,none⟩=some (.int .i64 z)) (go_keep)
    (first|(go_at_call 113;refine(eq1 _ _ _ _).mono ?_;rintro e w2 ⟨rfl,rfl⟩))
   all_goals(go_wp2;go_roundw)
   all_goals first
    |(have b2:=two_more wr (.cells #[.int .i64 x,.int .i64 y,.int .i64 z] 146) (.cells #[.int .i64 x,.int .i64 y,.int .i64 z] 146)
      exact⟨k+1,by omega,by go_num,(zu H1).below b2 (by omega),(zu H2).below b2 (by omega),next (zu HB) b2⟩)
    |(simp[intOf];omega)
  ·have HB:=zh hb
   clear h1 h2 hb
   go_wp2
   go_ret
   exact⟨rfl,zu HB⟩
def marks(s:Int)(n:Nat):List T3:=(List.range n).map fun(i:Nat)=>(s+3*(i:Int),s+3*(i:Int)+1,s+3*(i:Int)+2)
theorem marks_len(s:Int)(n:Nat):(marks s n).length=n:=by simp[marks]
theorem marks_getD(s:Int)(n i:Nat)(h:i<n):el3 (marks s n) i=(s+3*(i:Int),s+3*(i:Int)+1,s+3*(i:Int)+2):=by simp[marks,List.getD,h]
def marked(s:Int)(ps:List T3)(n j:Nat):List T3:=(marks s n).take j++ps.drop j
theorem marked_zero(s:Int)(ps:List T3)(n:Nat):marked s ps n 0=ps:=by simp[marked]
theorem marked_all(s:Int)(ps:List T3)(n:Nat)(h:ps.length=n):marked s ps n n=marks s n:=by
 unfold marked
 rw[List.take_of_length_le (by rw[marks_len];exact Nat.le_refl _),List.drop_of_length_le (by omega),List.append_nil]
theorem marked_step(s:Int)(ps:List T3)(n j:Nat)(h:ps.length=n)(hj:j<n):(((marked s ps n j).modify j fun p=>(s+3*(j:Int),p.2)).modify j (fun p=>(p.1,s+3*(j:Int)+1,p.2.2))).modify j (fun p=>(p.1,p.2.1,s+3*(j:Int)+1+1))=marked s ps n (j+1):=by
 unfold marked
 have l:=marks_len s n
 have g:=marks_getD s n j hj
 have l1:((marks s n).take j).length=j:=by simp;omega
 have l2:((marks s n).take (j+1)).length=j+1:=by simp;omega
 apply List.ext_getElem?
 intro i
 rw[List.getElem?_modify,List.getElem?_modify,List.getElem?_modify]
 by_cases e:j=i
 ·subst e
  rw[List.getElem?_append_right (by omega),List.getElem?_append_left (by omega),List.getElem?_take,if_pos (by omega),l1]
  have hg:(marks s n)[j]?=some (s+3*(j:Int),s+3*(j:Int)+1,s+3*(j:Int)+2):=by
   rw[←g];simp[List.getD,l,hj]
  rw[hg]
  simp[List.getElem?_drop,h,hj]
  omega
 ·by_cases d:i<j
  ·rw[List.getElem?_append_left (by omega),List.getElem?_append_left (by omega),List.getElem?_take,List.getElem?_take,if_pos d,if_pos (by omega)]
   simp[e]
  ·rw[List.getElem?_append_right (by omega),List.getElem?_append_right (by omega),l1,l2]
   simp only[List.getElem?_drop]
   rw[show j+(i-j)=i by omega,show j+1+(i-(j+1))=i by omega]
   simp[e]
theorem markS(w:World)(base g n cap:Nat)(s:Int)(ps:List T3)(h20:n≤1048576)(s0:0≤s)(s1:s≤100000000)(ho:Own3 146 w base g n cap ps):
  Calls Tryz.prog 92 #[.slice (some ⟨g,0,none⟩) n cap,.int .i64 s] w fun e w'=>e= .returned (.int .i64 (s+3*(n:Int)))∧Own3 146 w' base g n cap (marks s n)∧w.grownBy w' (some g):=by
 have hl:=ho.len
 have ho':Own3 146 w base g n cap (marked s ps n 0):=by rw[marked_zero];exact ho
 clear ho
 go_enter Tryz.func92,Tryz.ntmps92
 go_wp2
 go_loopw [1,5] (fun m i wr=>∃(k:Nat),k≤n∧i= .int .i64 k∧m= .int .i64 (s+3*(k:Int))∧Own3 146 wr base g n cap (marked s ps n k)∧w.grownBy wr (some g)) (fun _ i _=>n-(intOf i).toNat)
 case atStart=>exact⟨0,by omega,rfl,by go_num,ho',World.grownBy.refl _ _⟩
 case round=>
  clear ho'
  obtain⟨k,hk,rfl,rfl,hown,hg⟩:=hrel
  by_cases t:k<n
  ·obtain⟨o1,q1⟩:=hown.set0 k (s+3*(k:Int))
   obtain⟨o2,q2⟩:=o1.set1 k (s+3*(k:Int)+1)
   obtain⟨o3,q3⟩:=o2.set2 k (s+3*(k:Int)+1+1)
   obtain⟨hd0,hd1,hd2⟩:=hown.at k (by rw[Own3.len hown];exact t)
   have hf0:=hown.free (k*3)
   have hf1:=hown.free (k*3+1)
   have hf2:=hown.free (k*3+2)
   rw[marked_step s ps n k hl t] at o3
   have HO:=zh o3
   have HG:=zh (grown_trans (grown_trans (grown_trans hg q1) q2) q3)
   clear hown hg o1 q1 o2 q2 o3 q3
   generalize (el3 (marked s ps n k) k).1=z0 at hd0
   generalize (el3 (marked s ps n k) k).2.1=z1 at hd1
   generalize (el3 (marked s ps n k) k).2.2=z2 at hd2
   have r1:IntKind.i64.wrap (s+3*(k:Int)+1)=s+3*(k:Int)+1:=by rw[IntKind.wrap_i64];omega
   have r2:IntKind.i64.wrap (s+3*(k:Int)+1+1)=s+3*(k:Int)+1+1:=by rw[IntKind.wrap_i64];omega
   have r3:IntKind.i64.wrap (s+3*(k:Int)+1+1+1)=s+3*(k:Int)+1+1+1:=by rw[IntKind.wrap_i64];omega
   go_wp2
   go_roundw
   case rel=>exact⟨k+1,by omega,by go_num,by go_num,zu HO,zu HG⟩
   case measure=>simp[intOf];omega
  ·obtain rfl:k=n:=by omega
   rw[marked_all s ps k hl] at hown
   have HO:=zh hown
   have HG:=zh hg
   clear hown hg
   go_wp2
   go_ret
   exact⟨rfl,zu HO,zu HG⟩
theorem sz_yes(a:Option Addr)(len cap:Nat)(l:Int)(w:World)(h:(len:Int)≤l)(hl:l≤1048576):
  Calls Tryz.prog 53 #[.slice a len cap,.int .i64 l] w fun e w'=>e= .returned (.int .i64 (l-(len:Int)))∧w'=w:=by
 have h1:(0:Int)≤l-(len:Int):=by omega
 have h2:wrap64 (l-(len:Int))=l-(len:Int):=by rw[wrap64];omega
 go_enter Tryz.func53,Tryz.ntmps53
 go_wp2
 go_ret
 exact⟨rfl,rfl⟩
theorem sz_no(a:Option Addr)(len cap:Nat)(l:Int)(w:World)(h:¬(len:Int)≤l)(hl:l≤1048576)(h0:0≤l)(hm:len≤9223372036854775807):
  Calls Tryz.prog 53 #[.slice a len cap,.int .i64 l] w fun e w'=>e= .returned (.int .i64 (-1))∧w'=w:=by
 have h1:l-(len:Int)<0:=by omega
 have h2:wrap64 (l-(len:Int))=l-(len:Int):=by rw[wrap64];omega
 go_enter Tryz.func53,Tryz.ntmps53
 go_wp2
 go_ret
 exact⟨rfl,rfl⟩
end BalHelp
namespace LotHelp
open Tup5
theorem info2:(Tryz.prog.info? 148).map (fun i=>(i.zero,i.size,i.bytes))=some (some (.agg #[.int .i64 0,.int .i64 0,.int .i64 0,.int .i64 0,.int .i64 0]),5,40):=by kernel_rfl
theorem to1(w:World)(x0 x1 x2 x3 x4:Int):Calls Tryz.prog 107 #[.agg #[.int .i64 x0,.int .i64 x1,.int .i64 x2,.int .i64 x3,.int .i64 x4]] w fun e w'=>e= .returned (.agg #[.int .i64 x0,.int .i64 x1,.int .i64 x2,.int .i64 x3,.int .i64 x4])∧Below w.heap.size w w':=by
 go_enter Tryz.func107,Tryz.ntmps107
 go_wp2
 refine bodyPost_ret (v:= .agg #[.int .i64 x0,.int .i64 x1,.int .i64 x2,.int .i64 x3,.int .i64 x4]) (by simp[results,Tryz.results107,go_sem]) rfl ⟨rfl,?_⟩
 exact(((Below.refl _ _).alloc (Nat.le_refl _) _).alloc (by simp) _).alloc (by simp;omega) _
theorem made(n:Nat):(madeCells (Value.agg #[.int .i64 0,.int .i64 0,.int .i64 0,.int .i64 0,.int .i64 0]).cells (n*5)).toList=flat5 (List.replicate n (0,0,0,0,0)):=by
 apply List.ext_getElem?
 intro j
 by_cases hj:j<n*5
 ·have hs:(Value.agg #[Value.int .i64 0,Value.int .i64 0,Value.int .i64 0,Value.int .i64 0,Value.int .i64 0]).cells= #[Value.int .i64 0,Value.int .i64 0,Value.int .i64 0,Value.int .i64 0,Value.int .i64 0]:=rfl
  rw[hs]
  obtain⟨f0,f1,f2,f3,f4⟩:=flat5_get (List.replicate n (0,0,0,0,0)) (j/5) (by simp;omega)
  have hg:(List.replicate n (((0:Int),(0:Int),(0:Int),(0:Int),(0:Int)):T5)).getD (j/5) (0,0,0,0,0)=(0,0,0,0,0):=by simp[List.getD,show j/5<n by omega]
  unfold el5 at f0 f1 f2 f3 f4
  rw[hg] at f0 f1 f2 f3 f4
  rcases(show j%5=0∨j%5=1∨j%5=2∨j%5=3∨j%5=4 by omega) with e|e|e|e|e
  ·rw[show j/5*5=j by omega] at f0
   rw[f0]
   simp[madeCells,hj,e]
  ·rw[show j/5*5+1=j by omega] at f1
   rw[f1]
   simp[madeCells,hj,e]
  ·rw[show j/5*5+2=j by omega] at f2
   rw[f2]
   simp[madeCells,hj,e]
  ·rw[show j/5*5+3=j by omega] at f3
   rw[f3]
   simp[madeCells,hj,e]
  ·rw[show j/5*5+4=j by omega] at f4
   rw[f4]
   simp[madeCells,hj,e]
 ·rw[List.getElem?_eq_none (by simp[madeCells];omega),List.getElem?_eq_none (by rw[flat5_len];simp;omega)]
def part(ps:List T5)(n k:Nat):List T5:=ps.take k++List.replicate (n-k) (0,0,0,0,0)
theorem part_zero(ps:List T5)(n:Nat):part ps n 0=List.replicate n (0,0,0,0,0):=by simp[part]
theorem part_all(ps:List T5)(n:Nat)(h:ps.length=n):part ps n n=ps:=by
 unfold part
 rw[←h];simp
theorem part_step(ps:List T5)(n k:Nat)(h:ps.length=n)(hk:k<n):(((((part ps n k).modify k (fun p=>((el5 ps k).1,p.2.1,p.2.2.1,p.2.2.2.1,p.2.2.2.2))).modify k (fun p=>(p.1,(el5 ps k).2.1,p.2.2.1,p.2.2.2.1,p.2.2.2.2))).modify k (fun p=>(p.1,p.2.1,(el5 ps k).2.2.1,p.2.2.2.1,p.2.2.2.2))).modify k (fun p=>(p.1,p.2.1,p.2.2.1,(el5 ps k).2.2.2.1,p.2.2.2.2))).modify k (fun p=>(p.1,p.2.1,p.2.2.1,p.2.2.2.1,(el5 ps k).2.2.2.2))=part ps n (k+1):=by
 subst h
 unfold part
 apply List.ext_getElem?
 intro j
 have l1:(ps.take k).length=k:=by simp;omega
 have l2:(ps.take (k+1)).length=k+1:=by simp;omega
 rw[List.getElem?_modify,List.getElem?_modify,List.getElem?_modify,List.getElem?_modify,List.getElem?_modify]
 by_cases e:k=j
 ·subst e
  rw[List.getElem?_append_right (by omega),List.getElem?_append_left (by omega),List.getElem?_take,if_pos (by omega),l1]
  simp[List.getD,hk,show 0<ps.length-k by omega]
 ·by_cases l:j<k
  ·rw[List.getElem?_append_left (by omega),List.getElem?_append_left (by omega),List.getElem?_take,List.getElem?_take,if_pos l,if_pos (by omega)]
   simp[e]
  ·rw[List.getElem?_append_right (by omega),List.getElem?_append_right (by omega),l1,l2]
   simp only[List.getElem?_replicate]
   by_cases m:j<ps.length
   ·rw[if_pos (by omega),if_pos (by omega)];simp[e]
   ·rw[if_neg (by omega),if_neg (by omega)];simp[e]
theorem toS(w:World)(a:Option Addr)(len cap:Nat)(ps:List T5)(hl:ps.length=len)(h20:len≤1048576)(hr:Reads5 w a ps):
  Calls Tryz.prog 63 #[.slice a len cap] w fun e w'=>e= .returned (.slice (some ⟨w.heap.size,0,none⟩) len len)∧Own5 148 w' w.heap.size w.heap.size len len ps∧Below w.heap.size w w':=by
 obtain⟨i0,hi,hz0,hz1,hz2⟩:=info_parts info2
 go_enter Tryz.func63,Tryz.ntmps63
 go_wp2_with (at_make;refine wpList_make_full _ rfl _ _ 37 rfl w.heap.size 148 i0 (.agg #[.int .i64 0,.int .i64 0,.int .i64 0,.int .i64 0,.int .i64 0]) 5 Tryz.underlying37 hi hz0 hz1 .i64 .i64 _ _ len rfl rfl rfl rfl (by rw[hz2];omega) (by unfold maxLen;omega) (Nat.le_refl _) ?_;intro w1 hown hgrow)
 rw[made,←part_zero ps] at hown
 have hb:=grownBy_below hgrow
 have hown:Own5 148 w1 w.heap.size w.heap.size len len (part ps len 0):=hown
 clear hgrow
 go_loopw [4] (fun i wr=>∃(k:Nat),k≤len∧i= .int .i64 k∧Own5 148 wr w.heap.size w.heap.size len len (part ps len k)∧Below w.heap.size w wr) (fun i _=>len-(intOf i).toNat)
 case atStart=>exact⟨0,by omega,rfl,hown,hb⟩
 case round=>
  clear hown hb
  obtain⟨k,hk,rfl,hown,hb⟩:=hrel
  by_cases t:k<len
  ·rcases hr with hz|⟨b,off,rfl,hlt,hcell⟩
   ·omega
   have hc0:=(hb.cell (p:=⟨b,off+k*5,none⟩) hlt).trans (hcell k (by omega)).1
   have hc1:=(hb.cell (p:=⟨b,off+k*5+1,none⟩) hlt).trans (hcell k (by omega)).2.1
   have hc2:=(hb.cell (p:=⟨b,off+k*5+2,none⟩) hlt).trans (hcell k (by omega)).2.2.1
   have hc3:=(hb.cell (p:=⟨b,off+k*5+3,none⟩) hlt).trans (hcell k (by omega)).2.2.2.1
   have hc4:=(hb.cell (p:=⟨b,off+k*5+4,none⟩) hlt).trans (hcell k (by omega)).2.2.2.2
   clear hcell
   have HO:=zh hown
   have HB:=zh hb
   clear hown hb
   have PS:=zh (part_step ps len k hl t)
   generalize (el5 ps k).1=x0 at *
   generalize (el5 ps k).2.1=x1 at *
   generalize (el5 ps k).2.2.1=x2 at *
   generalize (el5 ps k).2.2.2.1=x3 at *
   generalize (el5 ps k).2.2.2.2=x4 at *
   go_wp2_with fail
   refine(to1 _ x0 x1 x2 x3 x4).mono ?_
   rintro e w2 ⟨rfl,b2⟩
   have o2:=(zu HO).below b2 (zu HO).lt.2
   have hb2:=(zu HB).trans (b2.mono (zu HB).size)
   clear HO HB b2 hc0 hc1 hc2 hc3 hc4
   have hs0:=o2.set0 k x0
   have hs1:=hs0.1.set1 k x1
   have hs2:=hs1.1.set2 k x2
   have hs3:=hs2.1.set3 k x3
   have hs4:=hs3.1.set4 k x4
   have hd:=o2.at k (by rw[o2.len];exact t)
   have hd0:=hd.1
   have hd1:=hd.2.1
   have hd2:=hd.2.2.1
   have hd3:=hd.2.2.2.1
   have hd4:=hd.2.2.2.2
   have hf0:=o2.free (k*5)
   have hf1:=o2.free (k*5+1)
   have hf2:=o2.free (k*5+2)
   have hf3:=o2.free (k*5+3)
   have hf4:=o2.free (k*5+4)
   have HS:=zh hs4.1
   have HB:=zh (((((hb2.setCell (p:=⟨w.heap.size,k*5,none⟩) (Nat.le_refl _) (.int .i64 x0)).setCell (p:=⟨w.heap.size,k*5+1,none⟩) (Nat.le_refl _) (.int .i64 x1)).setCell (p:=⟨w.heap.size,k*5+2,none⟩) (Nat.le_refl _) (.int .i64 x2)).setCell (p:=⟨w.heap.size,k*5+3,none⟩) (Nat.le_refl _) (.int .i64 x3)).setCell (p:=⟨w.heap.size,k*5+4,none⟩) (Nat.le_refl _) (.int .i64 x4))
   clear hs0 hs1 hs2 hs3 hs4 hd o2 hb2
   go_wp2
   go_roundw
   case rel=>
    have o:=zu HS
    rw[zu PS] at o
    exact⟨k+1,by omega,by go_num,o,zu HB⟩
   case measure=>simp[intOf];omega
  ·obtain rfl:k=len:=by omega
   rw[part_all ps k hl] at hown
   have HO:=zh hown
   have HB:=zh hb
   clear hown hb hr
   go_wp2
   go_ret
   exact⟨rfl,zu HO,zu HB⟩
theorem eq1(w:World)(x0 x1 x2 x3 x4:Int):Calls Tryz.prog 114 #[.agg #[.int .i64 x0,.int .i64 x1,.int .i64 x2,.int .i64 x3,.int .i64 x4],.agg #[.int .i64 x0,.int .i64 x1,.int .i64 x2,.int .i64 x3,.int .i64 x4]] w fun e w'=>e= .returned (.bool true)∧w'=(w.alloc (.cells #[.int .i64 x0,.int .i64 x1,.int .i64 x2,.int .i64 x3,.int .i64 x4] 148)).alloc (.cells #[.int .i64 x0,.int .i64 x1,.int .i64 x2,.int .i64 x3,.int .i64 x4] 148):=by
 go_enter Tryz.func114,Tryz.ntmps114
 go_wp2
 go_ret
 exact⟨rfl,rfl⟩
theorem two_more(w:World)(o p:Obj):Below w.heap.size w ((w.alloc o).alloc p).drew:=(((Below.refl _ _).alloc (Nat.le_refl _) _).alloc (by simp) _).drew
theorem eqS(w:World)(g1 g2 n c1 c2:Nat)(ps:List T5)(hl:ps.length=n)(h20:n≤1048576)(l1:g1<w.heap.size)(l2:g2<w.heap.size)(h1:At5 w g1 ps)(h2:At5 w g2 ps):
  Calls Tryz.prog 72 #[.slice (some ⟨g1,0,none⟩) n c1,.slice (some ⟨g2,0,none⟩) n c2] w fun e w'=>e= .returned (.bool true)∧Below w.heap.size w w':=by
 go_enter Tryz.func72,Tryz.ntmps72
 go_wp2
 go_loopw [5] (fun i wr=>∃(k:Nat),k≤n∧i= .int .i64 k∧At5 wr g1 ps∧At5 wr g2 ps∧Below w.heap.size w wr) (fun i _=>n-(intOf i).toNat)
 case atStart=>exact⟨0,by omega,rfl,h1,h2,Below.refl _ _⟩
 case round=>
  clear h1 h2
  obtain⟨k,hk,rfl,h1,h2,hb⟩:=hrel
  by_cases t:k<n
  ·obtain⟨e0,e1,e2,e3,e4⟩:=h1 k (by omega)
   obtain⟨f0,f1,f2,f3,f4⟩:=h2 k (by omega)
   have s:=hb.size
   have H1:=zh h1
   have H2:=zh h2
   have HB:=zh hb
   clear h1 h2 hb
   generalize (el5 ps k).1=x0 at *
   generalize (el5 ps k).2.1=x1 at *
   generalize (el5 ps k).2.2.1=x2 at *
   generalize (el5 ps k).2.2.2.1=x3 at *
   generalize (el5 ps k).2.2.2.2=x4 at *
   go_wp2_with fail
   go_region_held3 (fun w'=>w'.cell? ⟨g1,k*5,none⟩=some (.int .i64 x0)∧w'.cell? ⟨g2,k*5,none⟩=some (.int .i64 x0)∧w'.cell? ⟨g1,k*5+1,none⟩=some (.int .i64 x1)∧w'.cell? ⟨g2,k*5+1,none⟩=some (.int .i64 x1)∧w'.cell? ⟨g1,k*5+2,none⟩=some (.int .i64 x2)∧w'.cell? ⟨g2,k*5+2,none⟩=some (.int .i64 x2)∧w'.cell? ⟨g1,k*5+3,none⟩=some (.int .i64 x3)∧w'.cell? ⟨g2,k*5+3,none⟩=some (.int .i64 x3)∧w'.cell? ⟨g1,k*5+4,none⟩=some (.int .i64 x4)∧w'.cell? ⟨g2,k*5+4,none⟩=some (.int .i64 x4)) (go_keep)
    (first|(go_at_call 114;refine(eq1 _ _ _ _ _ _).mono ?_;rintro e w2 ⟨rfl,rfl⟩))
   all_goals(go_wp2;go_roundw)
   all_goals first
    |(have b2:=two_more wr (.cells #[.int .i64 x0,.int .i64 x1,.int .i64 x2,.int .i64 x3,.int .i64 x4] 148) (.cells #[.int .i64 x0,.int .i64 x1,.int .i64 x2,.int .i64 x3,.int .i64 x4] 148)
      exact⟨k+1,by omega,by go_num,(zu H1).below b2 (by omega),(zu H2).below b2 (by omega),next (zu HB) b2⟩)
    |(simp[intOf];omega)
  ·have HB:=zh hb
   clear h1 h2 hb
   go_wp2
   go_ret
   exact⟨rfl,zu HB⟩
def marks(s:Int)(n:Nat):List T5:=(List.range n).map fun(i:Nat)=>(s+5*(i:Int),s+5*(i:Int)+1,s+5*(i:Int)+2,s+5*(i:Int)+3,s+5*(i:Int)+4)
theorem marks_len(s:Int)(n:Nat):(marks s n).length=n:=by simp[marks]
theorem marks_getD(s:Int)(n i:Nat)(h:i<n):el5 (marks s n) i=(s+5*(i:Int),s+5*(i:Int)+1,s+5*(i:Int)+2,s+5*(i:Int)+3,s+5*(i:Int)+4):=by simp[marks,List.getD,h]
def marked(s:Int)(ps:List T5)(n j:Nat):List T5:=(marks s n).take j++ps.drop j
theorem marked_zero(s:Int)(ps:List T5)(n:Nat):marked s ps n 0=ps:=by simp[marked]
theorem marked_all(s:Int)(ps:List T5)(n:Nat)(h:ps.length=n):marked s ps n n=marks s n:=by
 unfold marked
 rw[List.take_of_length_le (by rw[marks_len];exact Nat.le_refl _),List.drop_of_length_le (by omega),List.append_nil]
theorem marked_step(s:Int)(ps:List T5)(n j:Nat)(h:ps.length=n)(hj:j<n):(((((marked s ps n j).modify j (fun p=>(s+5*(j:Int),p.2.1,p.2.2.1,p.2.2.2.1,p.2.2.2.2))).modify j (fun p=>(p.1,s+5*(j:Int)+1,p.2.2.1,p.2.2.2.1,p.2.2.2.2))).modify j (fun p=>(p.1,p.2.1,s+5*(j:Int)+1+1,p.2.2.2.1,p.2.2.2.2))).modify j (fun p=>(p.1,p.2.1,p.2.2.1,s+5*(j:Int)+1+1+1,p.2.2.2.2))).modify j (fun p=>(p.1,p.2.1,p.2.2.1,p.2.2.2.1,s+5*(j:Int)+1+1+1+1))=marked s ps n (j+1):=by
 unfold marked
 have l:=marks_len s n
 have g:=marks_getD s n j hj
 have l1:((marks s n).take j).length=j:=by simp;omega
 have l2:((marks s n).take (j+1)).length=j+1:=by simp;omega
 apply List.ext_getElem?
 intro i
 rw[List.getElem?_modify,List.getElem?_modify,List.getElem?_modify,List.getElem?_modify,List.getElem?_modify]
 by_cases e:j=i
 ·subst e
  rw[List.getElem?_append_right (by omega),List.getElem?_append_left (by omega),List.getElem?_take,if_pos (by omega),l1]
  have hg:(marks s n)[j]?=some (s+5*(j:Int),s+5*(j:Int)+1,s+5*(j:Int)+2,s+5*(j:Int)+3,s+5*(j:Int)+4):=by
   rw[←g];simp[List.getD,l,hj]
  rw[hg]
  simp[List.getElem?_drop,h,hj]
  omega
 ·by_cases d:i<j
  ·rw[List.getElem?_append_left (by omega),List.getElem?_append_left (by omega),List.getElem?_take,List.getElem?_take,if_pos d,if_pos (by omega)]
   simp[e]
  ·rw[List.getElem?_append_right (by omega),List.getElem?_append_right (by omega),l1,l2]
   simp only[List.getElem?_drop]
   rw[show j+(i-j)=i by omega,show j+1+(i-(j+1))=i by omega]
   simp[e]
theorem markS(w:World)(base g n cap:Nat)(s:Int)(ps:List T5)(h20:n≤1048576)(s0:0≤s)(s1:s≤100000000)(ho:Own5 148 w base g n cap ps):
  Calls Tryz.prog 93 #[.slice (some ⟨g,0,none⟩) n cap,.int .i64 s] w fun e w'=>e= .returned (.int .i64 (s+5*(n:Int)))∧Own5 148 w' base g n cap (marks s n)∧w.grownBy w' (some g):=by
 have hl:=ho.len
 have ho':Own5 148 w base g n cap (marked s ps n 0):=by rw[marked_zero];exact ho
 clear ho
 go_enter Tryz.func93,Tryz.ntmps93
 go_wp2
 go_loopw [1,5] (fun m i wr=>∃(k:Nat),k≤n∧i= .int .i64 k∧m= .int .i64 (s+5*(k:Int))∧Own5 148 wr base g n cap (marked s ps n k)∧w.grownBy wr (some g)) (fun _ i _=>n-(intOf i).toNat)
 case atStart=>exact⟨0,by omega,rfl,by go_num,ho',World.grownBy.refl _ _⟩
 case round=>
  clear ho'
  obtain⟨k,hk,rfl,rfl,hown,hg⟩:=hrel
  by_cases t:k<n
  ·obtain⟨o0,q0⟩:=hown.set0 k (s+5*(k:Int))
   obtain⟨o1,q1⟩:=o0.set1 k (s+5*(k:Int)+1)
   obtain⟨o2,q2⟩:=o1.set2 k (s+5*(k:Int)+1+1)
   obtain⟨o3,q3⟩:=o2.set3 k (s+5*(k:Int)+1+1+1)
   obtain⟨o4,q4⟩:=o3.set4 k (s+5*(k:Int)+1+1+1+1)
   obtain⟨hd0,hd1,hd2,hd3,hd4⟩:=hown.at k (by rw[Own5.len hown];exact t)
   have hf0:=hown.free (k*5)
   have hf1:=hown.free (k*5+1)
   have hf2:=hown.free (k*5+2)
   have hf3:=hown.free (k*5+3)
   have hf4:=hown.free (k*5+4)
   rw[marked_step s ps n k hl t] at o4
   have HO:=zh o4
   have HG:=zh (grown_trans (grown_trans (grown_trans (grown_trans (grown_trans hg q0) q1) q2) q3) q4)
   clear hown hg o0 q0 o1 q1 o2 q2 o3 q3 o4 q4
   generalize (el5 (marked s ps n k) k).1=z0 at hd0
   generalize (el5 (marked s ps n k) k).2.1=z1 at hd1
   generalize (el5 (marked s ps n k) k).2.2.1=z2 at hd2
   generalize (el5 (marked s ps n k) k).2.2.2.1=z3 at hd3
   generalize (el5 (marked s ps n k) k).2.2.2.2=z4 at hd4
   have r1:IntKind.i64.wrap (s+5*(k:Int)+1)=s+5*(k:Int)+1:=by rw[IntKind.wrap_i64];omega
   have r2:IntKind.i64.wrap (s+5*(k:Int)+1+1)=s+5*(k:Int)+1+1:=by rw[IntKind.wrap_i64];omega
   have r3:IntKind.i64.wrap (s+5*(k:Int)+1+1+1)=s+5*(k:Int)+1+1+1:=by rw[IntKind.wrap_i64];omega
   have r4:IntKind.i64.wrap (s+5*(k:Int)+1+1+1+1)=s+5*(k:Int)+1+1+1+1:=by rw[IntKind.wrap_i64];omega
   have r5:IntKind.i64.wrap (s+5*(k:Int)+1+1+1+1+1)=s+5*(k:Int)+1+1+1+1+1:=by rw[IntKind.wrap_i64];omega
   go_wp2
   go_roundw
   case rel=>exact⟨k+1,by omega,by go_num,by go_num,zu HO,zu HG⟩
   case measure=>simp[intOf];omega
  ·obtain rfl:k=n:=by omega
   rw[marked_all s ps k hl] at hown
   have HO:=zh hown
   have HG:=zh hg
   clear hown hg
   go_wp2
   go_ret
   exact⟨rfl,zu HO,zu HG⟩
theorem sz_yes(a:Option Addr)(len cap:Nat)(l:Int)(w:World)(h:(len:Int)≤l)(hl:l≤1048576):
  Calls Tryz.prog 54 #[.slice a len cap,.int .i64 l] w fun e w'=>e= .returned (.int .i64 (l-(len:Int)))∧w'=w:=by
 have h1:(0:Int)≤l-(len:Int):=by omega
 have h2:wrap64 (l-(len:Int))=l-(len:Int):=by rw[wrap64];omega
 go_enter Tryz.func54,Tryz.ntmps54
 go_wp2
 go_ret
 exact⟨rfl,rfl⟩
theorem sz_no(a:Option Addr)(len cap:Nat)(l:Int)(w:World)(h:¬(len:Int)≤l)(hl:l≤1048576)(h0:0≤l)(hm:len≤9223372036854775807):
  Calls Tryz.prog 54 #[.slice a len cap,.int .i64 l] w fun e w'=>e= .returned (.int .i64 (-1))∧w'=w:=by
 have h1:l-(len:Int)<0:=by omega
 have h2:wrap64 (l-(len:Int))=l-(len:Int):=by rw[wrap64];omega
 go_enter Tryz.func54,Tryz.ntmps54
 go_wp2
 go_ret
 exact⟨rfl,rfl⟩
end LotHelp
namespace TradeHelp
open Tup8
theorem info2:(Tryz.prog.info? 141).map (fun i=>(i.zero,i.size,i.bytes))=some (some (.agg #[.int .i64 0,.int .i64 0,.int .i64 0,.int .i64 0,.int .i64 0,.int .i64 0,.int .i64 0,.int .i64 0]),8,64):=by kernel_rfl
theorem to1(w:World)(x0 x1 x2 x3 x4 x5 x6 x7:Int):Calls Tryz.prog 108 #[.agg #[.int .i64 x0,.int .i64 x1,.int .i64 x2,.int .i64 x3,.int .i64 x4,.int .i64 x5,.int .i64 x6,.int .i64 x7]] w fun e w'=>e= .returned (.agg #[.int .i64 x0,.int .i64 x1,.int .i64 x2,.int .i64 x3,.int .i64 x4,.int .i64 x5,.int .i64 x6,.int .i64 x7])∧Below w.heap.size w w':=by
 go_enter Tryz.func108,Tryz.ntmps108
 go_wp2
 refine bodyPost_ret (v:= .agg #[.int .i64 x0,.int .i64 x1,.int .i64 x2,.int .i64 x3,.int .i64 x4,.int .i64 x5,.int .i64 x6,.int .i64 x7]) (by simp[results,Tryz.results108,go_sem]) rfl ⟨rfl,?_⟩
 exact(((Below.refl _ _).alloc (Nat.le_refl _) _).alloc (by simp) _).alloc (by simp;omega) _
theorem made(n:Nat):(madeCells (Value.agg #[.int .i64 0,.int .i64 0,.int .i64 0,.int .i64 0,.int .i64 0,.int .i64 0,.int .i64 0,.int .i64 0]).cells (n*8)).toList=flat8 (List.replicate n (0,0,0,0,0,0,0,0)):=by
 apply List.ext_getElem?
 intro j
 by_cases hj:j<n*8
 ·have hs:(Value.agg #[Value.int .i64 0,Value.int .i64 0,Value.int .i64 0,Value.int .i64 0,Value.int .i64 0,Value.int .i64 0,Value.int .i64 0,Value.int .i64 0]).cells= #[Value.int .i64 0,Value.int .i64 0,Value.int .i64 0,Value.int .i64 0,Value.int .i64 0,Value.int .i64 0,Value.int .i64 0,Value.int .i64 0]:=rfl
  rw[hs]
  obtain⟨f0,f1,f2,f3,f4,f5,f6,f7⟩:=flat8_get (List.replicate n (0,0,0,0,0,0,0,0)) (j/8) (by simp;omega)
  have hg:(List.replicate n (((0:Int),(0:Int),(0:Int),(0:Int),(0:Int),(0:Int),(0:Int),(0:Int)):T8)).getD (j/8) (0,0,0,0,0,0,0,0)=(0,0,0,0,0,0,0,0):=by simp[List.getD,show j/8<n by omega]
  unfold el8 at f0 f1 f2 f3 f4 f5 f6 f7
  rw[hg] at f0 f1 f2 f3 f4 f5 f6 f7
  rcases(show j%8=0∨j%8=1∨j%8=2∨j%8=3∨j%8=4∨j%8=5∨j%8=6∨j%8=7 by omega) with e|e|e|e|e|e|e|e
  ·rw[show j/8*8=j by omega] at f0
   rw[f0]
   simp[madeCells,hj,e]
  ·rw[show j/8*8+1=j by omega] at f1
   rw[f1]
   simp[madeCells,hj,e]
  ·rw[show j/8*8+2=j by omega] at f2
   rw[f2]
   simp[madeCells,hj,e]
  ·rw[show j/8*8+3=j by omega] at f3
   rw[f3]
   simp[madeCells,hj,e]
  ·rw[show j/8*8+4=j by omega] at f4
   rw[f4]
   simp[madeCells,hj,e]
  ·rw[show j/8*8+5=j by omega] at f5
   rw[f5]
   simp[madeCells,hj,e]
  ·rw[show j/8*8+6=j by omega] at f6
   rw[f6]
   simp[madeCells,hj,e]
  ·rw[show j/8*8+7=j by omega] at f7
   rw[f7]
   simp[madeCells,hj,e]
 ·rw[List.getElem?_eq_none (by simp[madeCells];omega),List.getElem?_eq_none (by rw[flat8_len];simp;omega)]
def part(ps:List T8)(n k:Nat):List T8:=ps.take k++List.replicate (n-k) (0,0,0,0,0,0,0,0)
theorem part_zero(ps:List T8)(n:Nat):part ps n 0=List.replicate n (0,0,0,0,0,0,0,0):=by simp[part]
theorem part_all(ps:List T8)(n:Nat)(h:ps.length=n):part ps n n=ps:=by
 unfold part
 rw[←h];simp
theorem part_step(ps:List T8)(n k:Nat)(h:ps.length=n)(hk:k<n):((((((((part ps n k).modify k (fun p=>((el8 ps k).1,p.2.1,p.2.2.1,p.2.2.2.1,p.2.2.2.2.1,p.2.2.2.2.2.1,p.2.2.2.2.2.2.1,p.2.2.2.2.2.2.2))).modify k (fun p=>(p.1,(el8 ps k).2.1,p.2.2.1,p.2.2.2.1,p.2.2.2.2.1,p.2.2.2.2.2.1,p.2.2.2.2.2.2.1,p.2.2.2.2.2.2.2))).modify k (fun p=>(p.1,p.2.1,(el8 ps k).2.2.1,p.2.2.2.1,p.2.2.2.2.1,p.2.2.2.2.2.1,p.2.2.2.2.2.2.1,p.2.2.2.2.2.2.2))).modify k (fun p=>(p.1,p.2.1,p.2.2.1,(el8 ps k).2.2.2.1,p.2.2.2.2.1,p.2.2.2.2.2.1,p.2.2.2.2.2.2.1,p.2.2.2.2.2.2.2))).modify k (fun p=>(p.1,p.2.1,p.2.2.1,p.2.2.2.1,(el8 ps k).2.2.2.2.1,p.2.2.2.2.2.1,p.2.2.2.2.2.2.1,p.2.2.2.2.2.2.2))).modify k (fun p=>(p.1,p.2.1,p.2.2.1,p.2.2.2.1,p.2.2.2.2.1,(el8 ps k).2.2.2.2.2.1,p.2.2.2.2.2.2.1,p.2.2.2.2.2.2.2))).modify k (fun p=>(p.1,p.2.1,p.2.2.1,p.2.2.2.1,p.2.2.2.2.1,p.2.2.2.2.2.1,(el8 ps k).2.2.2.2.2.2.1,p.2.2.2.2.2.2.2))).modify k (fun p=>(p.1,p.2.1,p.2.2.1,p.2.2.2.1,p.2.2.2.2.1,p.2.2.2.2.2.1,p.2.2.2.2.2.2.1,(el8 ps k).2.2.2.2.2.2.2))=part ps n (k+1):=by
 subst h
 unfold part
 apply List.ext_getElem?
 intro j
 have l1:(ps.take k).length=k:=by simp;omega
 have l2:(ps.take (k+1)).length=k+1:=by simp;omega
 rw[List.getElem?_modify,List.getElem?_modify,List.getElem?_modify,List.getElem?_modify,List.getElem?_modify,List.getElem?_modify,List.getElem?_modify,List.getElem?_modify]
 by_cases e:k=j
 ·subst e
  rw[List.getElem?_append_right (by omega),List.getElem?_append_left (by omega),List.getElem?_take,if_pos (by omega),l1]
  simp[List.getD,hk,show 0<ps.length-k by omega]
 ·by_cases l:j<k
  ·rw[List.getElem?_append_left (by omega),List.getElem?_append_left (by omega),List.getElem?_take,List.getElem?_take,if_pos l,if_pos (by omega)]
   simp[e]
  ·rw[List.getElem?_append_right (by omega),List.getElem?_append_right (by omega),l1,l2]
   simp only[List.getElem?_replicate]
   by_cases m:j<ps.length
   ·rw[if_pos (by omega),if_pos (by omega)];simp[e]
   ·rw[if_neg (by omega),if_neg (by omega)];simp[e]
theorem toS(w:World)(a:Option Addr)(len cap:Nat)(ps:List T8)(hl:ps.length=len)(h20:len≤1048576)(hr:Reads8 w a ps):
  Calls Tryz.prog 64 #[.slice a len cap] w fun e w'=>e= .returned (.slice (some ⟨w.heap.size,0,none⟩) len len)∧Own8 141 w' w.heap.size w.heap.size len len ps∧Below w.heap.size w w':=by
 obtain⟨i0,hi,hz0,hz1,hz2⟩:=info_parts info2
 go_enter Tryz.func64,Tryz.ntmps64
 go_wp2_with (at_make;refine wpList_make_full _ rfl _ _ 38 rfl w.heap.size 141 i0 (.agg #[.int .i64 0,.int .i64 0,.int .i64 0,.int .i64 0,.int .i64 0,.int .i64 0,.int .i64 0,.int .i64 0]) 8 Tryz.underlying38 hi hz0 hz1 .i64 .i64 _ _ len rfl rfl rfl rfl (by rw[hz2];omega) (by unfold maxLen;omega) (Nat.le_refl _) ?_;intro w1 hown hgrow)
 rw[made,←part_zero ps] at hown
 have hb:=grownBy_below hgrow
 have hown:Own8 141 w1 w.heap.size w.heap.size len len (part ps len 0):=hown
 clear hgrow
 go_loopw [4] (fun i wr=>∃(k:Nat),k≤len∧i= .int .i64 k∧Own8 141 wr w.heap.size w.heap.size len len (part ps len k)∧Below w.heap.size w wr) (fun i _=>len-(intOf i).toNat)
 case atStart=>exact⟨0,by omega,rfl,hown,hb⟩
 case round=>
  clear hown hb
  obtain⟨k,hk,rfl,hown,hb⟩:=hrel
  by_cases t:k<len
  ·rcases hr with hz|⟨b,off,rfl,hlt,hcell⟩
   ·omega
   have hc0:=(hb.cell (p:=⟨b,off+k*8,none⟩) hlt).trans (hcell k (by omega)).1
   have hc1:=(hb.cell (p:=⟨b,off+k*8+1,none⟩) hlt).trans (hcell k (by omega)).2.1
   have hc2:=(hb.cell (p:=⟨b,off+k*8+2,none⟩) hlt).trans (hcell k (by omega)).2.2.1
   have hc3:=(hb.cell (p:=⟨b,off+k*8+3,none⟩) hlt).trans (hcell k (by omega)).2.2.2.1
   have hc4:=(hb.cell (p:=⟨b,off+k*8+4,none⟩) hlt).trans (hcell k (by omega)).2.2.2.2.1
   have hc5:=(hb.cell (p:=⟨b,off+k*8+5,none⟩) hlt).trans (hcell k (by omega)).2.2.2.2.2.1
   have hc6:=(hb.cell (p:=⟨b,off+k*8+6,none⟩) hlt).trans (hcell k (by omega)).2.2.2.2.2.2.1
   have hc7:=(hb.cell (p:=⟨b,off+k*8+7,none⟩) hlt).trans (hcell k (by omega)).2.2.2.2.2.2.2
   clear hcell
   have HO:=zh hown
   have HB:=zh hb
   clear hown hb
   have PS:=zh (part_step ps len k hl t)
   generalize (el8 ps k).1=x0 at *
   generalize (el8 ps k).2.1=x1 at *
   generalize (el8 ps k).2.2.1=x2 at *
   generalize (el8 ps k).2.2.2.1=x3 at *
   generalize (el8 ps k).2.2.2.2.1=x4 at *
   generalize (el8 ps k).2.2.2.2.2.1=x5 at *
   generalize (el8 ps k).2.2.2.2.2.2.1=x6 at *
   generalize (el8 ps k).2.2.2.2.2.2.2=x7 at *
   go_wp2_with fail
   refine(to1 _ x0 x1 x2 x3 x4 x5 x6 x7).mono ?_
   rintro e w2 ⟨rfl,b2⟩
   have o2:=(zu HO).below b2 (zu HO).lt.2
   have hb2:=(zu HB).trans (b2.mono (zu HB).size)
   clear HO HB b2 hc0 hc1 hc2 hc3 hc4 hc5 hc6 hc7
   have hs0:=o2.set0 k x0
   have hs1:=hs0.1.set1 k x1
   have hs2:=hs1.1.set2 k x2
   have hs3:=hs2.1.set3 k x3
   have hs4:=hs3.1.set4 k x4
   have hs5:=hs4.1.set5 k x5
   have hs6:=hs5.1.set6 k x6
   have hs7:=hs6.1.set7 k x7
   have hd:=o2.at k (by rw[o2.len];exact t)
   have hd0:=hd.1
   have hd1:=hd.2.1
   have hd2:=hd.2.2.1
   have hd3:=hd.2.2.2.1
   have hd4:=hd.2.2.2.2.1
   have hd5:=hd.2.2.2.2.2.1
   have hd6:=hd.2.2.2.2.2.2.1
   have hd7:=hd.2.2.2.2.2.2.2
   have hf0:=o2.free (k*8)
   have hf1:=o2.free (k*8+1)
   have hf2:=o2.free (k*8+2)
   have hf3:=o2.free (k*8+3)
   have hf4:=o2.free (k*8+4)
   have hf5:=o2.free (k*8+5)
   have hf6:=o2.free (k*8+6)
   have hf7:=o2.free (k*8+7)
   have HS:=zh hs7.1
   have HB:=zh ((((((((hb2.setCell (p:=⟨w.heap.size,k*8,none⟩) (Nat.le_refl _) (.int .i64 x0)).setCell (p:=⟨w.heap.size,k*8+1,none⟩) (Nat.le_refl _) (.int .i64 x1)).setCell (p:=⟨w.heap.size,k*8+2,none⟩) (Nat.le_refl _) (.int .i64 x2)).setCell (p:=⟨w.heap.size,k*8+3,none⟩) (Nat.le_refl _) (.int .i64 x3)).setCell (p:=⟨w.heap.size,k*8+4,none⟩) (Nat.le_refl _) (.int .i64 x4)).setCell (p:=⟨w.heap.size,k*8+5,none⟩) (Nat.le_refl _) (.int .i64 x5)).setCell (p:=⟨w.heap.size,k*8+6,none⟩) (Nat.le_refl _) (.int .i64 x6)).setCell (p:=⟨w.heap.size,k*8+7,none⟩) (Nat.le_refl _) (.int .i64 x7))
   clear hs0 hs1 hs2 hs3 hs4 hs5 hs6 hs7 hd o2 hb2
   go_wp2
   go_roundw
   case rel=>
    have o:=zu HS
    rw[zu PS] at o
    exact⟨k+1,by omega,by go_num,o,zu HB⟩
   case measure=>simp[intOf];omega
  ·obtain rfl:k=len:=by omega
   rw[part_all ps k hl] at hown
   have HO:=zh hown
   have HB:=zh hb
   clear hown hb hr
   go_wp2
   go_ret
   exact⟨rfl,zu HO,zu HB⟩
theorem eq1(w:World)(x0 x1 x2 x3 x4 x5 x6 x7:Int):Calls Tryz.prog 115 #[.agg #[.int .i64 x0,.int .i64 x1,.int .i64 x2,.int .i64 x3,.int .i64 x4,.int .i64 x5,.int .i64 x6,.int .i64 x7],.agg #[.int .i64 x0,.int .i64 x1,.int .i64 x2,.int .i64 x3,.int .i64 x4,.int .i64 x5,.int .i64 x6,.int .i64 x7]] w fun e w'=>e= .returned (.bool true)∧w'=(w.alloc (.cells #[.int .i64 x0,.int .i64 x1,.int .i64 x2,.int .i64 x3,.int .i64 x4,.int .i64 x5,.int .i64 x6,.int .i64 x7] 141)).alloc (.cells #[.int .i64 x0,.int .i64 x1,.int .i64 x2,.int .i64 x3,.int .i64 x4,.int .i64 x5,.int .i64 x6,.int .i64 x7] 141):=by
 go_enter Tryz.func115,Tryz.ntmps115
 go_wp2
 go_ret
 exact⟨rfl,rfl⟩
theorem two_more(w:World)(o p:Obj):Below w.heap.size w ((w.alloc o).alloc p).drew:=(((Below.refl _ _).alloc (Nat.le_refl _) _).alloc (by simp) _).drew
theorem eqS(w:World)(g1 g2 n c1 c2:Nat)(ps:List T8)(hl:ps.length=n)(h20:n≤1048576)(l1:g1<w.heap.size)(l2:g2<w.heap.size)(h1:At8 w g1 ps)(h2:At8 w g2 ps):
  Calls Tryz.prog 73 #[.slice (some ⟨g1,0,none⟩) n c1,.slice (some ⟨g2,0,none⟩) n c2] w fun e w'=>e= .returned (.bool true)∧Below w.heap.size w w':=by
 go_enter Tryz.func73,Tryz.ntmps73
 go_wp2
 go_loopw [5] (fun i wr=>∃(k:Nat),k≤n∧i= .int .i64 k∧At8 wr g1 ps∧At8 wr g2 ps∧Below w.heap.size w wr) (fun i _=>n-(intOf i).toNat)
 case atStart=>exact⟨0,by omega,rfl,h1,h2,Below.refl _ _⟩
 case round=>
  clear h1 h2
  obtain⟨k,hk,rfl,h1,h2,hb⟩:=hrel
  by_cases t:k<n
  ·obtain⟨e0,e1,e2,e3,e4,e5,e6,e7⟩:=h1 k (by omega)
   obtain⟨f0,f1,f2,f3,f4,f5,f6,f7⟩:=h2 k (by omega)
   have s:=hb.size
   have H1:=zh h1
   have H2:=zh h2
   have HB:=zh hb
   clear h1 h2 hb
   generalize (el8 ps k).1=x0 at *
   generalize (el8 ps k).2.1=x1 at *
   generalize (el8 ps k).2.2.1=x2 at *
   generalize (el8 ps k).2.2.2.1=x3 at *
   generalize (el8 ps k).2.2.2.2.1=x4 at *
   generalize (el8 ps k).2.2.2.2.2.1=x5 at *
   generalize (el8 ps k).2.2.2.2.2.2.1=x6 at *
   generalize (el8 ps k).2.2.2.2.2.2.2=x7 at *
   go_wp2_with fail
   go_region_held3 (fun w'=>w'.cell? ⟨g1,k*8,none⟩=some (.int .i64 x0)∧w'.cell? ⟨g2,k*8,none⟩=some (.int .i64 x0)∧w'.cell? ⟨g1,k*8+1,none⟩=some (.int .i64 x1)∧w'.cell? ⟨g2,k*8+1,none⟩=some (.int .i64 x1)∧w'.cell? ⟨g1,k*8+2,none⟩=some (.int .i64 x2)∧w'.cell? ⟨g2,k*8+2,none⟩=some (.int .i64 x2)∧w'.cell? ⟨g1,k*8+3,none⟩=some (.int .i64 x3)∧w'.cell? ⟨g2,k*8+3,none⟩=some (.int .i64 x3)∧w'.cell? ⟨g1,k*8+4,none⟩=some (.int .i64 x4)∧w'.cell? ⟨g2,k*8+4,none⟩=some (.int .i64 x4)∧w'.cell? ⟨g1,k*8+5,none⟩=some (.int .i64 x5)∧w'.cell? ⟨g2,k*8+5,none⟩=some (.int .i64 x5)∧w'.cell? ⟨g1,k*8+6,none⟩=some (.int .i64 x6)∧w'.cell? ⟨g2,k*8+6,none⟩=some (.int .i64 x6)∧w'.cell? ⟨g1,k*8+7,none⟩=some (.int .i64 x7)∧w'.cell? ⟨g2,k*8+7,none⟩=some (.int .i64 x7)) (go_keep)
    (first|(go_at_call 115;refine(eq1 _ _ _ _ _ _ _ _ _).mono ?_;rintro e w2 ⟨rfl,rfl⟩))
   all_goals(go_wp2;go_roundw)
   all_goals first
    |(have b2:=two_more wr (.cells #[.int .i64 x0,.int .i64 x1,.int .i64 x2,.int .i64 x3,.int .i64 x4,.int .i64 x5,.int .i64 x6,.int .i64 x7] 141) (.cells #[.int .i64 x0,.int .i64 x1,.int .i64 x2,.int .i64 x3,.int .i64 x4,.int .i64 x5,.int .i64 x6,.int .i64 x7] 141)
      exact⟨k+1,by omega,by go_num,(zu H1).below b2 (by omega),(zu H2).below b2 (by omega),next (zu HB) b2⟩)
    |(simp[intOf];omega)
  ·have HB:=zh hb
   clear h1 h2 hb
   go_wp2
   go_ret
   exact⟨rfl,zu HB⟩
def marks(s:Int)(n:Nat):List T8:=(List.range n).map fun(i:Nat)=>(s+8*(i:Int),s+8*(i:Int)+1,s+8*(i:Int)+2,s+8*(i:Int)+3,s+8*(i:Int)+4,s+8*(i:Int)+5,s+8*(i:Int)+6,s+8*(i:Int)+7)
theorem marks_len(s:Int)(n:Nat):(marks s n).length=n:=by simp[marks]
theorem marks_getD(s:Int)(n i:Nat)(h:i<n):el8 (marks s n) i=(s+8*(i:Int),s+8*(i:Int)+1,s+8*(i:Int)+2,s+8*(i:Int)+3,s+8*(i:Int)+4,s+8*(i:Int)+5,s+8*(i:Int)+6,s+8*(i:Int)+7):=by simp[marks,List.getD,h]
def marked(s:Int)(ps:List T8)(n j:Nat):List T8:=(marks s n).take j++ps.drop j
theorem marked_zero(s:Int)(ps:List T8)(n:Nat):marked s ps n 0=ps:=by simp[marked]
theorem marked_all(s:Int)(ps:List T8)(n:Nat)(h:ps.length=n):marked s ps n n=marks s n:=by
 unfold marked
 rw[List.take_of_length_le (by rw[marks_len];exact Nat.le_refl _),List.drop_of_length_le (by omega),List.append_nil]
theorem marked_step(s:Int)(ps:List T8)(n j:Nat)(h:ps.length=n)(hj:j<n):((((((((marked s ps n j).modify j (fun p=>(s+8*(j:Int),p.2.1,p.2.2.1,p.2.2.2.1,p.2.2.2.2.1,p.2.2.2.2.2.1,p.2.2.2.2.2.2.1,p.2.2.2.2.2.2.2))).modify j (fun p=>(p.1,s+8*(j:Int)+1,p.2.2.1,p.2.2.2.1,p.2.2.2.2.1,p.2.2.2.2.2.1,p.2.2.2.2.2.2.1,p.2.2.2.2.2.2.2))).modify j (fun p=>(p.1,p.2.1,s+8*(j:Int)+1+1,p.2.2.2.1,p.2.2.2.2.1,p.2.2.2.2.2.1,p.2.2.2.2.2.2.1,p.2.2.2.2.2.2.2))).modify j (fun p=>(p.1,p.2.1,p.2.2.1,s+8*(j:Int)+1+1+1,p.2.2.2.2.1,p.2.2.2.2.2.1,p.2.2.2.2.2.2.1,p.2.2.2.2.2.2.2))).modify j (fun p=>(p.1,p.2.1,p.2.2.1,p.2.2.2.1,s+8*(j:Int)+1+1+1+1,p.2.2.2.2.2.1,p.2.2.2.2.2.2.1,p.2.2.2.2.2.2.2))).modify j (fun p=>(p.1,p.2.1,p.2.2.1,p.2.2.2.1,p.2.2.2.2.1,s+8*(j:Int)+1+1+1+1+1,p.2.2.2.2.2.2.1,p.2.2.2.2.2.2.2))).modify j (fun p=>(p.1,p.2.1,p.2.2.1,p.2.2.2.1,p.2.2.2.2.1,p.2.2.2.2.2.1,s+8*(j:Int)+1+1+1+1+1+1,p.2.2.2.2.2.2.2))).modify j (fun p=>(p.1,p.2.1,p.2.2.1,p.2.2.2.1,p.2.2.2.2.1,p.2.2.2.2.2.1,p.2.2.2.2.2.2.1,s+8*(j:Int)+1+1+1+1+1+1+1))=marked s ps n (j+1):=by
 unfold marked
 have l:=marks_len s n
 have g:=marks_getD s n j hj
 have l1:((marks s n).take j).length=j:=by simp;omega
 have l2:((marks s n).take (j+1)).length=j+1:=by simp;omega
 apply List.ext_getElem?
 intro i
 rw[List.getElem?_modify,List.getElem?_modify,List.getElem?_modify,List.getElem?_modify,List.getElem?_modify,List.getElem?_modify,List.getElem?_modify,List.getElem?_modify]
 by_cases e:j=i
 ·subst e
  rw[List.getElem?_append_right (by omega),List.getElem?_append_left (by omega),List.getElem?_take,if_pos (by omega),l1]
  have hg:(marks s n)[j]?=some (s+8*(j:Int),s+8*(j:Int)+1,s+8*(j:Int)+2,s+8*(j:Int)+3,s+8*(j:Int)+4,s+8*(j:Int)+5,s+8*(j:Int)+6,s+8*(j:Int)+7):=by
   rw[←g];simp[List.getD,l,hj]
  rw[hg]
  simp[List.getElem?_drop,h,hj]
  omega
 ·by_cases d:i<j
  ·rw[List.getElem?_append_left (by omega),List.getElem?_append_left (by omega),List.getElem?_take,List.getElem?_take,if_pos d,if_pos (by omega)]
   simp[e]
  ·rw[List.getElem?_append_right (by omega),List.getElem?_append_right (by omega),l1,l2]
   simp only[List.getElem?_drop]
   rw[show j+(i-j)=i by omega,show j+1+(i-(j+1))=i by omega]
   simp[e]
theorem markS(w:World)(base g n cap:Nat)(s:Int)(ps:List T8)(h20:n≤1048576)(s0:0≤s)(s1:s≤100000000)(ho:Own8 141 w base g n cap ps):
  Calls Tryz.prog 94 #[.slice (some ⟨g,0,none⟩) n cap,.int .i64 s] w fun e w'=>e= .returned (.int .i64 (s+8*(n:Int)))∧Own8 141 w' base g n cap (marks s n)∧w.grownBy w' (some g):=by
 have hl:=ho.len
 have ho':Own8 141 w base g n cap (marked s ps n 0):=by rw[marked_zero];exact ho
 clear ho
 go_enter Tryz.func94,Tryz.ntmps94
 go_wp2
 go_loopw [1,5] (fun m i wr=>∃(k:Nat),k≤n∧i= .int .i64 k∧m= .int .i64 (s+8*(k:Int))∧Own8 141 wr base g n cap (marked s ps n k)∧w.grownBy wr (some g)) (fun _ i _=>n-(intOf i).toNat)
 case atStart=>exact⟨0,by omega,rfl,by go_num,ho',World.grownBy.refl _ _⟩
 case round=>
  clear ho'
  obtain⟨k,hk,rfl,rfl,hown,hg⟩:=hrel
  by_cases t:k<n
  ·obtain⟨o0,q0⟩:=hown.set0 k (s+8*(k:Int))
   obtain⟨o1,q1⟩:=o0.set1 k (s+8*(k:Int)+1)
   obtain⟨o2,q2⟩:=o1.set2 k (s+8*(k:Int)+1+1)
   obtain⟨o3,q3⟩:=o2.set3 k (s+8*(k:Int)+1+1+1)
   obtain⟨o4,q4⟩:=o3.set4 k (s+8*(k:Int)+1+1+1+1)
   obtain⟨o5,q5⟩:=o4.set5 k (s+8*(k:Int)+1+1+1+1+1)
   obtain⟨o6,q6⟩:=o5.set6 k (s+8*(k:Int)+1+1+1+1+1+1)
   obtain⟨o7,q7⟩:=o6.set7 k (s+8*(k:Int)+1+1+1+1+1+1+1)
   obtain⟨hd0,hd1,hd2,hd3,hd4,hd5,hd6,hd7⟩:=hown.at k (by rw[Own8.len hown];exact t)
   have hf0:=hown.free (k*8)
   have hf1:=hown.free (k*8+1)
   have hf2:=hown.free (k*8+2)
   have hf3:=hown.free (k*8+3)
   have hf4:=hown.free (k*8+4)
   have hf5:=hown.free (k*8+5)
   have hf6:=hown.free (k*8+6)
   have hf7:=hown.free (k*8+7)
   rw[marked_step s ps n k hl t] at o7
   have HO:=zh o7
   have HG:=zh (grown_trans (grown_trans (grown_trans (grown_trans (grown_trans (grown_trans (grown_trans (grown_trans hg q0) q1) q2) q3) q4) q5) q6) q7)
   clear hown hg o0 q0 o1 q1 o2 q2 o3 q3 o4 q4 o5 q5 o6 q6 o7 q7
   generalize (el8 (marked s ps n k) k).1=z0 at hd0
   generalize (el8 (marked s ps n k) k).2.1=z1 at hd1
   generalize (el8 (marked s ps n k) k).2.2.1=z2 at hd2
   generalize (el8 (marked s ps n k) k).2.2.2.1=z3 at hd3
   generalize (el8 (marked s ps n k) k).2.2.2.2.1=z4 at hd4
   generalize (el8 (marked s ps n k) k).2.2.2.2.2.1=z5 at hd5
   generalize (el8 (marked s ps n k) k).2.2.2.2.2.2.1=z6 at hd6
   generalize (el8 (marked s ps n k) k).2.2.2.2.2.2.2=z7 at hd7
   have r1:IntKind.i64.wrap (s+8*(k:Int)+1)=s+8*(k:Int)+1:=by rw[IntKind.wrap_i64];omega
   have r2:IntKind.i64.wrap (s+8*(k:Int)+1+1)=s+8*(k:Int)+1+1:=by rw[IntKind.wrap_i64];omega
   have r3:IntKind.i64.wrap (s+8*(k:Int)+1+1+1)=s+8*(k:Int)+1+1+1:=by rw[IntKind.wrap_i64];omega
   have r4:IntKind.i64.wrap (s+8*(k:Int)+1+1+1+1)=s+8*(k:Int)+1+1+1+1:=by rw[IntKind.wrap_i64];omega
   have r5:IntKind.i64.wrap (s+8*(k:Int)+1+1+1+1+1)=s+8*(k:Int)+1+1+1+1+1:=by rw[IntKind.wrap_i64];omega
   have r6:IntKind.i64.wrap (s+8*(k:Int)+1+1+1+1+1+1)=s+8*(k:Int)+1+1+1+1+1+1:=by rw[IntKind.wrap_i64];omega
   have r7:IntKind.i64.wrap (s+8*(k:Int)+1+1+1+1+1+1+1)=s+8*(k:Int)+1+1+1+1+1+1+1:=by rw[IntKind.wrap_i64];omega
   have r8:IntKind.i64.wrap (s+8*(k:Int)+1+1+1+1+1+1+1+1)=s+8*(k:Int)+1+1+1+1+1+1+1+1:=by rw[IntKind.wrap_i64];omega
   go_wp2
   go_roundw
   case rel=>exact⟨k+1,by omega,by go_num,by go_num,zu HO,zu HG⟩
   case measure=>simp[intOf];omega
  ·obtain rfl:k=n:=by omega
   rw[marked_all s ps k hl] at hown
   have HO:=zh hown
   have HG:=zh hg
   clear hown hg
   go_wp2
   go_ret
   exact⟨rfl,zu HO,zu HG⟩
theorem sz_yes(a:Option Addr)(len cap:Nat)(l:Int)(w:World)(h:(len:Int)≤l)(hl:l≤1048576):
  Calls Tryz.prog 55 #[.slice a len cap,.int .i64 l] w fun e w'=>e= .returned (.int .i64 (l-(len:Int)))∧w'=w:=by
 have h1:(0:Int)≤l-(len:Int):=by omega
 have h2:wrap64 (l-(len:Int))=l-(len:Int):=by rw[wrap64];omega
 go_enter Tryz.func55,Tryz.ntmps55
 go_wp2
 go_ret
 exact⟨rfl,rfl⟩
theorem sz_no(a:Option Addr)(len cap:Nat)(l:Int)(w:World)(h:¬(len:Int)≤l)(hl:l≤1048576)(h0:0≤l)(hm:len≤9223372036854775807):
  Calls Tryz.prog 55 #[.slice a len cap,.int .i64 l] w fun e w'=>e= .returned (.int .i64 (-1))∧w'=w:=by
 have h1:l-(len:Int)<0:=by omega
 have h2:wrap64 (l-(len:Int))=l-(len:Int):=by rw[wrap64];omega
 go_enter Tryz.func55,Tryz.ntmps55
 go_wp2
 go_ret
 exact⟨rfl,rfl⟩
end TradeHelp
namespace BHelp
open BMem Bks ILists
open IBalsFit (St one_more)
structure Ix where
 aa:Option Addr
 ca:Nat
 ai:Option Addr
 ci:Nat
 ab:Option Addr
 cb:Nat
 al:Option Addr
 cl:Nat
 ats:Option Addr
 ct:Nat
 b:Bk
structure RdI(w:World)(y:Ix):Prop where
 ra:Pairs.Reads w y.aa y.b.ac
 ri:Pairs.Reads w y.ai y.b.ic
 rb:Triples.Reads3 w y.ab y.b.bs
 rl:Tup5.Reads5 w y.al y.b.ls
 rt:Tup8.Reads8 w y.ats y.b.ts
theorem RdI.below{w w':World}{y:Ix}(h:RdI w y)(k:Below w.heap.size w w'):RdI w' y:=
 ⟨h.ra.below k,h.ri.below k,h.rb.below k,h.rl.below k,h.rt.below k⟩
structure ClI(w:World)(g:Nat)(y:Ix):Prop where
 c0:w.cell? ⟨g,0,none⟩=some (.slice y.aa y.b.ac.length y.ca)
 c1:w.cell? ⟨g,1,none⟩=some (.slice y.ai y.b.ic.length y.ci)
 c2:w.cell? ⟨g,2,none⟩=some (.slice y.ab y.b.bs.length y.cb)
 c3:w.cell? ⟨g,3,none⟩=some (.slice y.al y.b.ls.length y.cl)
 c4:w.cell? ⟨g,4,none⟩=some (.slice y.ats y.b.ts.length y.ct)
 c5:w.cell? ⟨g,5,none⟩=some (.int .i64 y.b.lot)
theorem ClI.below{w w':World}{B g:Nat}{y:Ix}(h:ClI w g y)(k:Below B w w')(hg:g<B):ClI w' g y:=
 ⟨(k.cell (p:=⟨g,0,none⟩) hg).trans h.c0,(k.cell (p:=⟨g,1,none⟩) hg).trans h.c1,(k.cell (p:=⟨g,2,none⟩) hg).trans h.c2,(k.cell (p:=⟨g,3,none⟩) hg).trans h.c3,(k.cell (p:=⟨g,4,none⟩) hg).trans h.c4,(k.cell (p:=⟨g,5,none⟩) hg).trans h.c5⟩
theorem boxedI(w:World)(y:Ix)(e:TypeId):ClI (w.alloc (.cells #[.slice y.aa y.b.ac.length y.ca,.slice y.ai y.b.ic.length y.ci,.slice y.ab y.b.bs.length y.cb,.slice y.al y.b.ls.length y.cl,.slice y.ats y.b.ts.length y.ct,.int .i64 y.b.lot] e)) w.heap.size y:=⟨by simp,by simp,by simp,by simp,by simp,by simp⟩
theorem row_block{w w':World}{base:Nat}{e:TypeId}{size:Nat}{g n cap:Nat}{xs:List Value}(h:w.ownsRow base e size (.slice (some ⟨g,0,none⟩) n cap) n xs)(hb:w'.heap[g]?=w.heap[g]?):w'.ownsRow base e size (.slice (some ⟨g,0,none⟩) n cap) n xs:=by
 refine⟨h.1,?_⟩
 rcases h.2 with⟨h1,_⟩|⟨g',c,cur,h1,h2,h3,h4⟩
 ·simp at h1
 ·obtain⟨e,_⟩:g=g'∧cap=c:=by simpa using h1
  subst e
  exact .inr ⟨g,c,cur,h1,h2,hb.trans h3,h4⟩
theorem row_apart{w:World}{base base':Nat}{e e':TypeId}{size size':Nat}{g g' n n' cap cap':Nat}{xs xs':List Value}(h:w.ownsRow base e size (.slice (some ⟨g,0,none⟩) n cap) n xs)(k:w.ownsRow base' e' size' (.slice (some ⟨g',0,none⟩) n' cap') n' xs')(ne:e≠e'):g≠g':=by
 intro eg
 subst eg
 rcases h.2 with⟨h1,_⟩|⟨a,c,cur,h1,h2,h3,_⟩
 ·simp at h1
 ·rcases k.2 with⟨k1,_⟩|⟨a',c',cur',k1,k2,k3,_⟩
  ·simp at k1
  ·obtain⟨e1,_⟩:g=a∧cap=c:=by simpa using h1
   obtain⟨e2,_⟩:g=a'∧cap'=c':=by simpa using k1
   subst e1
   rw[←e2] at k3
   rw[h3] at k3
   simp at k3
   exact ne k3.2
def Up(x:Bx)(N:Nat):Prop:=x.ga<N∧x.gi<N∧x.gb<N∧x.gl<N∧x.gt<N
def Lo(x:Bx)(N:Nat):Prop:=N≤x.ga∧N≤x.gi∧N≤x.gb∧N≤x.gl∧N≤x.gt
theorem ow_up{w:World}{base:Nat}{x:Bx}(h:Ow w base x):Up x w.heap.size:=⟨h.oa.lt.2,h.oi.lt.2,h.ob.lt.2,h.ol.lt.2,h.ot.lt.2⟩
theorem ow_lo{w:World}{base:Nat}{x:Bx}(h:Ow w base x):Lo x base:=⟨h.oa.lt.1,h.oi.lt.1,h.ob.lt.1,h.ol.lt.1,h.ot.lt.1⟩
structure Turn(x:Bx)(w w':World):Prop where
 os:w'.os=w.os
 tape:w'.tape=w.tape
 output:w'.output=w.output
 size:w.heap.size≤w'.heap.size
 block:∀k,k<w.heap.size→k≠x.ga→k≠x.gi→k≠x.gb→k≠x.gl→k≠x.gt→w'.heap[k]?=w.heap[k]?
theorem Turn.refl(x:Bx)(w:World):Turn x w w:=⟨rfl,rfl,rfl,Nat.le_refl _,fun _ _ _ _ _ _ _=>rfl⟩
theorem Turn.grown{x:Bx}{w u v:World}{g:Nat}(h:Turn x w u)(k:u.grownBy v (some g))(hg:g=x.ga∨g=x.gi∨g=x.gb∨g=x.gl∨g=x.gt):Turn x w v:=
 ⟨k.os.trans h.os,k.tape.trans h.tape,k.output.trans h.output,Nat.le_trans h.size k.size,fun j hj a b c d e=>(k.block j (Nat.lt_of_lt_of_le hj h.size) (fun q=>by injection q with q;omega)).trans (h.block j hj a b c d e)⟩
theorem Turn.alloc{x:Bx}{w u:World}(h:Turn x w u)(o:Obj):Turn x w (u.alloc o):=
 ⟨h.os,h.tape,h.output,by have:=h.size;simp;omega,fun j hj a b c d e=>(Below.heap_alloc u o j (Nat.lt_of_lt_of_le hj h.size)).trans (h.block j hj a b c d e)⟩
theorem Turn.below{x:Bx}{w u:World}{B:Nat}(h:Turn x w u)(hB:B≤w.heap.size)(lo:Lo x B):Below B w u:=
 ⟨h.os,h.tape,h.output,h.size,fun k hk=>h.block k (by omega) (by have:=lo.1;omega) (by have:=lo.2.1;omega) (by have:=lo.2.2.1;omega) (by have:=lo.2.2.2.1;omega) (by have:=lo.2.2.2.2;omega)⟩
theorem Turn.ow{x y:Bx}{w u:World}{base:Nat}(h:Turn x w u)(k:Ow w base y)(ap:(∃N,Up x N∧Lo y N)∨∃N,Lo x N∧Up y N):Ow u base y:=by
 have hu:=ow_up k
 have all:∀g,(g=y.ga∨g=y.gi∨g=y.gb∨g=y.gl∨g=y.gt)→u.heap[g]?=w.heap[g]?:=by
  intro g hg
  refine h.block g ?_ ?_ ?_ ?_ ?_ ?_
  ·unfold Up at hu;omega
  all_goals
   rcases ap with⟨N,a,b⟩|⟨N,a,b⟩
   ·unfold Up at a;unfold Lo at b;omega
   ·unfold Lo at a;unfold Up at b;omega
 exact⟨row_block k.oa (all _ (by simp)),row_block k.oi (all _ (by simp)),row_block k.ob (all _ (by simp)),row_block k.ol (all _ (by simp)),row_block k.ot (all _ (by simp))⟩
structure TB(w W:World)(y:Ix)(v0 v1 v2 v3 v4 v5:Value):Prop where
 b:Below w.heap.size w W
 ci:ClI W w.heap.size y
 o:Box W w.heap.size (w.heap.size+1+1) v0 v1 v2 v3 v4 v5
 r:Box W w.heap.size (w.heap.size+1) (.slice none 0 0) (.slice none 0 0) (.slice none 0 0) (.slice none 0 0) (.slice none 0 0) (.int .i64 0)
section
variable {w W W':World} {y:Ix} {v0 v1 v2 v3 v4 v5:Value}
theorem TB.call(h:TB w W y v0 v1 v2 v3 v4 v5)(k:Below W.heap.size W W'):TB w W' y v0 v1 v2 v3 v4 v5:=by
 have l:=h.o.lt
 exact⟨h.b.trans (k.mono h.b.size),h.ci.below k (by omega),h.o.below k (by omega),h.r.below k (by omega)⟩
theorem TB.set0(h:TB w W y v0 v1 v2 v3 v4 v5)(u:Value):TB w (W.setCell ⟨w.heap.size+1+1,0,none⟩ u) y u v1 v2 v3 v4 v5:=by
 obtain⟨b,g⟩:=h.o.set0 u
 have n0:some w.heap.size≠some (w.heap.size+1+1):=fun e=>by injection e;omega
 exact⟨h.b.setCell (by simp;omega) u,⟨g.cell h.ci.c0 n0,g.cell h.ci.c1 n0,g.cell h.ci.c2 n0,g.cell h.ci.c3 n0,g.cell h.ci.c4 n0,g.cell h.ci.c5 n0⟩,b,h.r.kept g (fun e=>by injection e;omega)⟩
theorem TB.set1(h:TB w W y v0 v1 v2 v3 v4 v5)(u:Value):TB w (W.setCell ⟨w.heap.size+1+1,1,none⟩ u) y v0 u v2 v3 v4 v5:=by
 obtain⟨b,g⟩:=h.o.set1 u
 have n0:some w.heap.size≠some (w.heap.size+1+1):=fun e=>by injection e;omega
 exact⟨h.b.setCell (by simp;omega) u,⟨g.cell h.ci.c0 n0,g.cell h.ci.c1 n0,g.cell h.ci.c2 n0,g.cell h.ci.c3 n0,g.cell h.ci.c4 n0,g.cell h.ci.c5 n0⟩,b,h.r.kept g (fun e=>by injection e;omega)⟩
theorem TB.set2(h:TB w W y v0 v1 v2 v3 v4 v5)(u:Value):TB w (W.setCell ⟨w.heap.size+1+1,2,none⟩ u) y v0 v1 u v3 v4 v5:=by
 obtain⟨b,g⟩:=h.o.set2 u
 have n0:some w.heap.size≠some (w.heap.size+1+1):=fun e=>by injection e;omega
 exact⟨h.b.setCell (by simp;omega) u,⟨g.cell h.ci.c0 n0,g.cell h.ci.c1 n0,g.cell h.ci.c2 n0,g.cell h.ci.c3 n0,g.cell h.ci.c4 n0,g.cell h.ci.c5 n0⟩,b,h.r.kept g (fun e=>by injection e;omega)⟩
theorem TB.set3(h:TB w W y v0 v1 v2 v3 v4 v5)(u:Value):TB w (W.setCell ⟨w.heap.size+1+1,3,none⟩ u) y v0 v1 v2 u v4 v5:=by
 obtain⟨b,g⟩:=h.o.set3 u
 have n0:some w.heap.size≠some (w.heap.size+1+1):=fun e=>by injection e;omega
 exact⟨h.b.setCell (by simp;omega) u,⟨g.cell h.ci.c0 n0,g.cell h.ci.c1 n0,g.cell h.ci.c2 n0,g.cell h.ci.c3 n0,g.cell h.ci.c4 n0,g.cell h.ci.c5 n0⟩,b,h.r.kept g (fun e=>by injection e;omega)⟩
theorem TB.set4(h:TB w W y v0 v1 v2 v3 v4 v5)(u:Value):TB w (W.setCell ⟨w.heap.size+1+1,4,none⟩ u) y v0 v1 v2 v3 u v5:=by
 obtain⟨b,g⟩:=h.o.set4 u
 have n0:some w.heap.size≠some (w.heap.size+1+1):=fun e=>by injection e;omega
 exact⟨h.b.setCell (by simp;omega) u,⟨g.cell h.ci.c0 n0,g.cell h.ci.c1 n0,g.cell h.ci.c2 n0,g.cell h.ci.c3 n0,g.cell h.ci.c4 n0,g.cell h.ci.c5 n0⟩,b,h.r.kept g (fun e=>by injection e;omega)⟩
theorem TB.set5(h:TB w W y v0 v1 v2 v3 v4 v5)(u:Value):TB w (W.setCell ⟨w.heap.size+1+1,5,none⟩ u) y v0 v1 v2 v3 v4 u:=by
 obtain⟨b,g⟩:=h.o.set5 u
 have n0:some w.heap.size≠some (w.heap.size+1+1):=fun e=>by injection e;omega
 exact⟨h.b.setCell (by simp;omega) u,⟨g.cell h.ci.c0 n0,g.cell h.ci.c1 n0,g.cell h.ci.c2 n0,g.cell h.ci.c3 n0,g.cell h.ci.c4 n0,g.cell h.ci.c5 n0⟩,b,h.r.kept g (fun e=>by injection e;omega)⟩
end
theorem row_store{w:World}{base:Nat}{e:TypeId}{size:Nat}{g n cap:Nat}{xs:List Value}(h:w.ownsRow base e size (.slice (some ⟨g,0,none⟩) n cap) n xs){a:Addr}(ha:a.block<base)(u:Value):(w.setCell a u).ownsRow base e size (.slice (some ⟨g,0,none⟩) n cap) n xs:=ownsRow_setCell_below h ha u
theorem toAccount(w:World)(a:Option Addr)(len cap:Nat)(ps:List (Int×Int))(hl:ps.length=len)(h20:len≤1048576)(hr:Pairs.Reads w a ps):
  Calls Tryz.prog 60 #[.slice a len cap] w fun e w'=>∃g,e= .returned (.slice (some ⟨g,0,none⟩) len len)∧Pairs.Own 143 w' w.heap.size g len len ps∧Below w.heap.size w w':=
 (AccountHelp.toS w a len cap ps hl h20 hr).mono fun e w' ⟨h1,h2,h3⟩=>⟨_,h1,h2,h3⟩
theorem toInstr(w:World)(a:Option Addr)(len cap:Nat)(ps:List (Int×Int))(hl:ps.length=len)(h20:len≤1048576)(hr:Pairs.Reads w a ps):
  Calls Tryz.prog 61 #[.slice a len cap] w fun e w'=>∃g,e= .returned (.slice (some ⟨g,0,none⟩) len len)∧Pairs.Own 144 w' w.heap.size g len len ps∧Below w.heap.size w w':=
 (InstrHelp.toS w a len cap ps hl h20 hr).mono fun e w' ⟨h1,h2,h3⟩=>⟨_,h1,h2,h3⟩
theorem toBal(w:World)(a:Option Addr)(len cap:Nat)(ps:List Bals.T3)(hl:ps.length=len)(h20:len≤1048576)(hr:Triples.Reads3 w a ps):
  Calls Tryz.prog 62 #[.slice a len cap] w fun e w'=>∃g,e= .returned (.slice (some ⟨g,0,none⟩) len len)∧Triples.Own3 146 w' w.heap.size g len len ps∧Below w.heap.size w w':=
 (BalHelp.toS w a len cap ps hl h20 hr).mono fun e w' ⟨h1,h2,h3⟩=>⟨_,h1,h2,h3⟩
theorem toLot(w:World)(a:Option Addr)(len cap:Nat)(ps:List Tup5.T5)(hl:ps.length=len)(h20:len≤1048576)(hr:Tup5.Reads5 w a ps):
  Calls Tryz.prog 63 #[.slice a len cap] w fun e w'=>∃g,e= .returned (.slice (some ⟨g,0,none⟩) len len)∧Tup5.Own5 148 w' w.heap.size g len len ps∧Below w.heap.size w w':=
 (LotHelp.toS w a len cap ps hl h20 hr).mono fun e w' ⟨h1,h2,h3⟩=>⟨_,h1,h2,h3⟩
theorem toTrade(w:World)(a:Option Addr)(len cap:Nat)(ps:List Tup8.T8)(hl:ps.length=len)(h20:len≤1048576)(hr:Tup8.Reads8 w a ps):
  Calls Tryz.prog 64 #[.slice a len cap] w fun e w'=>∃g,e= .returned (.slice (some ⟨g,0,none⟩) len len)∧Tup8.Own8 141 w' w.heap.size g len len ps∧Below w.heap.size w w':=
 (TradeHelp.toS w a len cap ps hl h20 hr).mono fun e w' ⟨h1,h2,h3⟩=>⟨_,h1,h2,h3⟩
theorem toB(w:World)(y:Ix)(h:RdI w y)(hs:Small y.b):
  Calls Tryz.prog 26 #[.agg #[.slice y.aa y.b.ac.length y.ca,.slice y.ai y.b.ic.length y.ci,.slice y.ab y.b.bs.length y.cb,.slice y.al y.b.ls.length y.cl,.slice y.ats y.b.ts.length y.ct,.int .i64 y.b.lot]] w fun e w'=>∃x:Bx,x.b=y.b∧e= .returned (.agg #[.slice (some ⟨x.ga,0,none⟩) x.b.ac.length x.ca,.slice (some ⟨x.gi,0,none⟩) x.b.ic.length x.ci,.slice (some ⟨x.gb,0,none⟩) x.b.bs.length x.cb,.slice (some ⟨x.gl,0,none⟩) x.b.ls.length x.cl,.slice (some ⟨x.gt,0,none⟩) x.b.ts.length x.ct,.int .i64 x.b.lot])∧Ow w' w.heap.size x∧Below w.heap.size w w':=by
 obtain⟨na,ni,nb,nl,nt⟩:=hs
 have H:=zh h
 have T0:=zh (show TB w (((w.alloc (.cells #[.slice y.aa y.b.ac.length y.ca,.slice y.ai y.b.ic.length y.ci,.slice y.ab y.b.bs.length y.cb,.slice y.al y.b.ls.length y.cl,.slice y.ats y.b.ts.length y.ct,.int .i64 y.b.lot] 28)).alloc (.cells #[.slice none 0 0,.slice none 0 0,.slice none 0 0,.slice none 0 0,.slice none 0 0,.int .i64 0] 40)).alloc (.cells #[.slice none 0 0,.slice none 0 0,.slice none 0 0,.slice none 0 0,.slice none 0 0,.int .i64 0] 40)) y (.slice none 0 0) (.slice none 0 0) (.slice none 0 0) (.slice none 0 0) (.slice none 0 0) (.int .i64 0) from by
  have b2:Below (w.alloc (.cells #[.slice y.aa y.b.ac.length y.ca,.slice y.ai y.b.ic.length y.ci,.slice y.ab y.b.bs.length y.cb,.slice y.al y.b.ls.length y.cl,.slice y.ats y.b.ts.length y.ct,.int .i64 y.b.lot] 28)).heap.size (w.alloc (.cells #[.slice y.aa y.b.ac.length y.ca,.slice y.ai y.b.ic.length y.ci,.slice y.ab y.b.bs.length y.cb,.slice y.al y.b.ls.length y.cl,.slice y.ats y.b.ts.length y.ct,.int .i64 y.b.lot] 28)) (((w.alloc (.cells #[.slice y.aa y.b.ac.length y.ca,.slice y.ai y.b.ic.length y.ci,.slice y.ab y.b.bs.length y.cb,.slice y.al y.b.ls.length y.cl,.slice y.ats y.b.ts.length y.ct,.int .i64 y.b.lot] 28)).alloc (.cells #[.slice none 0 0,.slice none 0 0,.slice none 0 0,.slice none 0 0,.slice none 0 0,.int .i64 0] 40)).alloc (.cells #[.slice none 0 0,.slice none 0 0,.slice none 0 0,.slice none 0 0,.slice none 0 0,.int .i64 0] 40)):=((Below.refl _ _).alloc (Nat.le_refl _) _).alloc (by simp) _
  exact⟨((Below.refl w.heap.size w).alloc (Nat.le_refl _) _).trans (b2.mono (by simp)),(boxedI w y 28).below b2 (by simp),Box.made _ _ _ _ _ _ (by simp;omega) (by simp),(Box.made (w:=w.alloc (.cells #[.slice y.aa y.b.ac.length y.ca,.slice y.ai y.b.ic.length y.ci,.slice y.ab y.b.bs.length y.cb,.slice y.al y.b.ls.length y.cl,.slice y.ats y.b.ts.length y.ct,.int .i64 y.b.lot] 28)) (g:=w.heap.size+1) _ _ _ _ _ _ (by simp) (by simp)).below (one_more _ _) (by simp)⟩)
 clear h
 go_enter Tryz.func26,Tryz.ntmps26
 go_wp2_with fail
 have U0:=T0
 refine(toAccount _ y.aa _ y.ca y.b.ac rfl na ((zu H).below (zu U0).b).ra).mono ?_
 rintro e w1 ⟨g0,rfl,o,bb⟩
 have T1:=zh ((zu U0).call bb)
 have O0:=zh (show Pairs.Own 143 w1 (w.heap.size+3) g0 y.b.ac.length y.b.ac.length y.b.ac from o.rebase (by have:=(zu U0).o.lt;have:=o.lt;omega))
 clear bb o
 have c0:=(zu T1).o.c0
 have d0:=(zu T1).o.free 0
 have e1:=(zu T1).ci.c1
 go_wp2_with fail
 have U1:=zh ((zu T1).set0 (.slice (some ⟨g0,0,none⟩) y.b.ac.length y.b.ac.length))
 replace O0:=zh (row_store (zu O0) (a:=⟨w.heap.size+1+1,0,none⟩) (by simp) (.slice (some ⟨g0,0,none⟩) y.b.ac.length y.b.ac.length))
 refine(toInstr _ y.ai _ y.ci y.b.ic rfl ni ((zu H).below (zu U1).b).ri).mono ?_
 rintro e w2 ⟨g1,rfl,o,bb⟩
 have T2:=zh ((zu U1).call bb)
 have O1:=zh (show Pairs.Own 144 w2 (w.heap.size+3) g1 y.b.ic.length y.b.ic.length y.b.ic from o.rebase (by have:=(zu U1).o.lt;have:=o.lt;omega))
 replace O0:=zh (show Pairs.Own 143 w2 (w.heap.size+3) g0 y.b.ac.length y.b.ac.length y.b.ac from Pairs.Own.below (zu O0) bb (by have:=World.ownsRow.lt (zu O0) g0 rfl;omega))
 clear bb o
 have c1:=(zu T2).o.c1
 have d1:=(zu T2).o.free 1
 have e2:=(zu T2).ci.c2
 go_wp2_with fail
 have U2:=zh ((zu T2).set1 (.slice (some ⟨g1,0,none⟩) y.b.ic.length y.b.ic.length))
 replace O0:=zh (row_store (zu O0) (a:=⟨w.heap.size+1+1,1,none⟩) (by simp) (.slice (some ⟨g1,0,none⟩) y.b.ic.length y.b.ic.length))
 replace O1:=zh (row_store (zu O1) (a:=⟨w.heap.size+1+1,1,none⟩) (by simp) (.slice (some ⟨g1,0,none⟩) y.b.ic.length y.b.ic.length))
 refine(toBal _ y.ab _ y.cb y.b.bs rfl nb ((zu H).below (zu U2).b).rb).mono ?_
 rintro e w3 ⟨g2,rfl,o,bb⟩
 have T3:=zh ((zu U2).call bb)
 have O2:=zh (show Triples.Own3 146 w3 (w.heap.size+3) g2 y.b.bs.length y.b.bs.length y.b.bs from o.rebase (by have:=(zu U2).o.lt;have:=o.lt;omega))
 replace O0:=zh (show Pairs.Own 143 w3 (w.heap.size+3) g0 y.b.ac.length y.b.ac.length y.b.ac from Pairs.Own.below (zu O0) bb (by have:=World.ownsRow.lt (zu O0) g0 rfl;omega))
 replace O1:=zh (show Pairs.Own 144 w3 (w.heap.size+3) g1 y.b.ic.length y.b.ic.length y.b.ic from Pairs.Own.below (zu O1) bb (by have:=World.ownsRow.lt (zu O1) g1 rfl;omega))
 clear bb o
 have c2:=(zu T3).o.c2
 have d2:=(zu T3).o.free 2
 have e3:=(zu T3).ci.c3
 go_wp2_with fail
 have U3:=zh ((zu T3).set2 (.slice (some ⟨g2,0,none⟩) y.b.bs.length y.b.bs.length))
 replace O0:=zh (row_store (zu O0) (a:=⟨w.heap.size+1+1,2,none⟩) (by simp) (.slice (some ⟨g2,0,none⟩) y.b.bs.length y.b.bs.length))
 replace O1:=zh (row_store (zu O1) (a:=⟨w.heap.size+1+1,2,none⟩) (by simp) (.slice (some ⟨g2,0,none⟩) y.b.bs.length y.b.bs.length))
 replace O2:=zh (row_store (zu O2) (a:=⟨w.heap.size+1+1,2,none⟩) (by simp) (.slice (some ⟨g2,0,none⟩) y.b.bs.length y.b.bs.length))
 refine(toLot _ y.al _ y.cl y.b.ls rfl nl ((zu H).below (zu U3).b).rl).mono ?_
 rintro e w4 ⟨g3,rfl,o,bb⟩
 have T4:=zh ((zu U3).call bb)
 have O3:=zh (show Tup5.Own5 148 w4 (w.heap.size+3) g3 y.b.ls.length y.b.ls.length y.b.ls from o.rebase (by have:=(zu U3).o.lt;have:=o.lt;omega))
 replace O0:=zh (show Pairs.Own 143 w4 (w.heap.size+3) g0 y.b.ac.length y.b.ac.length y.b.ac from Pairs.Own.below (zu O0) bb (by have:=World.ownsRow.lt (zu O0) g0 rfl;omega))
 replace O1:=zh (show Pairs.Own 144 w4 (w.heap.size+3) g1 y.b.ic.length y.b.ic.length y.b.ic from Pairs.Own.below (zu O1) bb (by have:=World.ownsRow.lt (zu O1) g1 rfl;omega))
 replace O2:=zh (show Triples.Own3 146 w4 (w.heap.size+3) g2 y.b.bs.length y.b.bs.length y.b.bs from Triples.Own3.below (zu O2) bb (by have:=World.ownsRow.lt (zu O2) g2 rfl;omega))
 clear bb o
 have c3:=(zu T4).o.c3
 have d3:=(zu T4).o.free 3
 have e4:=(zu T4).ci.c4
 go_wp2_with fail
 have U4:=zh ((zu T4).set3 (.slice (some ⟨g3,0,none⟩) y.b.ls.length y.b.ls.length))
 replace O0:=zh (row_store (zu O0) (a:=⟨w.heap.size+1+1,3,none⟩) (by simp) (.slice (some ⟨g3,0,none⟩) y.b.ls.length y.b.ls.length))
 replace O1:=zh (row_store (zu O1) (a:=⟨w.heap.size+1+1,3,none⟩) (by simp) (.slice (some ⟨g3,0,none⟩) y.b.ls.length y.b.ls.length))
 replace O2:=zh (row_store (zu O2) (a:=⟨w.heap.size+1+1,3,none⟩) (by simp) (.slice (some ⟨g3,0,none⟩) y.b.ls.length y.b.ls.length))
 replace O3:=zh (row_store (zu O3) (a:=⟨w.heap.size+1+1,3,none⟩) (by simp) (.slice (some ⟨g3,0,none⟩) y.b.ls.length y.b.ls.length))
 refine(toTrade _ y.ats _ y.ct y.b.ts rfl nt ((zu H).below (zu U4).b).rt).mono ?_
 rintro e w5 ⟨g4,rfl,o,bb⟩
 have T5:=zh ((zu U4).call bb)
 have O4:=zh (show Tup8.Own8 141 w5 (w.heap.size+3) g4 y.b.ts.length y.b.ts.length y.b.ts from o.rebase (by have:=(zu U4).o.lt;have:=o.lt;omega))
 replace O0:=zh (show Pairs.Own 143 w5 (w.heap.size+3) g0 y.b.ac.length y.b.ac.length y.b.ac from Pairs.Own.below (zu O0) bb (by have:=World.ownsRow.lt (zu O0) g0 rfl;omega))
 replace O1:=zh (show Pairs.Own 144 w5 (w.heap.size+3) g1 y.b.ic.length y.b.ic.length y.b.ic from Pairs.Own.below (zu O1) bb (by have:=World.ownsRow.lt (zu O1) g1 rfl;omega))
 replace O2:=zh (show Triples.Own3 146 w5 (w.heap.size+3) g2 y.b.bs.length y.b.bs.length y.b.bs from Triples.Own3.below (zu O2) bb (by have:=World.ownsRow.lt (zu O2) g2 rfl;omega))
 replace O3:=zh (show Tup5.Own5 148 w5 (w.heap.size+3) g3 y.b.ls.length y.b.ls.length y.b.ls from Tup5.Own5.below (zu O3) bb (by have:=World.ownsRow.lt (zu O3) g3 rfl;omega))
 clear bb o
 have c4:=(zu T5).o.c4
 have d4:=(zu T5).o.free 4
 clear c0 c1 c2 c3 d0 d1 d2 d3 e1 e2 e3 e4
 have e5:=(zu T5).ci.c5
 have c0:=(zu T5).o.c0
 have c1:=(zu T5).o.c1
 have c2:=(zu T5).o.c2
 have c3:=(zu T5).o.c3
 have c5:=(zu T5).o.c5
 have d5:=(zu T5).o.free 5
 have r0:=(zu T5).r.c0
 have f0:=(zu T5).r.free 0
 have r1:=(zu T5).r.c1
 have f1:=(zu T5).r.free 1
 have r2:=(zu T5).r.c2
 have f2:=(zu T5).r.free 2
 have r3:=(zu T5).r.c3
 have f3:=(zu T5).r.free 3
 have r4:=(zu T5).r.c4
 have f4:=(zu T5).r.free 4
 have r5:=(zu T5).r.c5
 have f5:=(zu T5).r.free 5
 have B5:=zh (zu T5).b
 go_wp2
 refine bodyPost_ret (v:= .agg #[.slice (some ⟨g0,0,none⟩) y.b.ac.length y.b.ac.length,.slice (some ⟨g1,0,none⟩) y.b.ic.length y.b.ic.length,.slice (some ⟨g2,0,none⟩) y.b.bs.length y.b.bs.length,.slice (some ⟨g3,0,none⟩) y.b.ls.length y.b.ls.length,.slice (some ⟨g4,0,none⟩) y.b.ts.length y.b.ts.length,.int .i64 y.b.lot]) (by simp[results,Tryz.results26,go_sem,r0,r1,r2,r3,r4,r5]) rfl ⟨⟨g0,y.b.ac.length,g1,y.b.ic.length,g2,y.b.bs.length,g3,y.b.ls.length,g4,y.b.ts.length,y.b⟩,rfl,rfl,?_,?_⟩
 ·exact Ow.rebase (base:=w.heap.size+3) ⟨(row_store (row_store (row_store (row_store (row_store (row_store (row_store (row_store (zu O0) (a:=⟨w.heap.size+1+1,4,none⟩) (by simp) _) (a:=⟨w.heap.size+1+1,5,none⟩) (by simp) _) (a:=⟨w.heap.size+1,0,none⟩) (by simp) _) (a:=⟨w.heap.size+1,1,none⟩) (by simp) _) (a:=⟨w.heap.size+1,2,none⟩) (by simp) _) (a:=⟨w.heap.size+1,3,none⟩) (by simp) _) (a:=⟨w.heap.size+1,4,none⟩) (by simp) _) (a:=⟨w.heap.size+1,5,none⟩) (by simp) _),(row_store (row_store (row_store (row_store (row_store (row_store (row_store (row_store (zu O1) (a:=⟨w.heap.size+1+1,4,none⟩) (by simp) _) (a:=⟨w.heap.size+1+1,5,none⟩) (by simp) _) (a:=⟨w.heap.size+1,0,none⟩) (by simp) _) (a:=⟨w.heap.size+1,1,none⟩) (by simp) _) (a:=⟨w.heap.size+1,2,none⟩) (by simp) _) (a:=⟨w.heap.size+1,3,none⟩) (by simp) _) (a:=⟨w.heap.size+1,4,none⟩) (by simp) _) (a:=⟨w.heap.size+1,5,none⟩) (by simp) _),(row_store (row_store (row_store (row_store (row_store (row_store (row_store (row_store (zu O2) (a:=⟨w.heap.size+1+1,4,none⟩) (by simp) _) (a:=⟨w.heap.size+1+1,5,none⟩) (by simp) _) (a:=⟨w.heap.size+1,0,none⟩) (by simp) _) (a:=⟨w.heap.size+1,1,none⟩) (by simp) _) (a:=⟨w.heap.size+1,2,none⟩) (by simp) _) (a:=⟨w.heap.size+1,3,none⟩) (by simp) _) (a:=⟨w.heap.size+1,4,none⟩) (by simp) _) (a:=⟨w.heap.size+1,5,none⟩) (by simp) _),(row_store (row_store (row_store (row_store (row_store (row_store (row_store (row_store (zu O3) (a:=⟨w.heap.size+1+1,4,none⟩) (by simp) _) (a:=⟨w.heap.size+1+1,5,none⟩) (by simp) _) (a:=⟨w.heap.size+1,0,none⟩) (by simp) _) (a:=⟨w.heap.size+1,1,none⟩) (by simp) _) (a:=⟨w.heap.size+1,2,none⟩) (by simp) _) (a:=⟨w.heap.size+1,3,none⟩) (by simp) _) (a:=⟨w.heap.size+1,4,none⟩) (by simp) _) (a:=⟨w.heap.size+1,5,none⟩) (by simp) _),(row_store (row_store (row_store (row_store (row_store (row_store (row_store (row_store (zu O4) (a:=⟨w.heap.size+1+1,4,none⟩) (by simp) _) (a:=⟨w.heap.size+1+1,5,none⟩) (by simp) _) (a:=⟨w.heap.size+1,0,none⟩) (by simp) _) (a:=⟨w.heap.size+1,1,none⟩) (by simp) _) (a:=⟨w.heap.size+1,2,none⟩) (by simp) _) (a:=⟨w.heap.size+1,3,none⟩) (by simp) _) (a:=⟨w.heap.size+1,4,none⟩) (by simp) _) (a:=⟨w.heap.size+1,5,none⟩) (by simp) _)⟩ (by omega)
 ·exact(((((((((zu B5).setCell (p:=⟨w.heap.size+1+1,4,none⟩) (by simp;omega) _).setCell (p:=⟨w.heap.size+1+1,5,none⟩) (by simp;omega) _).setCell (p:=⟨w.heap.size+1,0,none⟩) (by simp) _).setCell (p:=⟨w.heap.size+1,1,none⟩) (by simp) _).setCell (p:=⟨w.heap.size+1,2,none⟩) (by simp) _).setCell (p:=⟨w.heap.size+1,3,none⟩) (by simp) _).setCell (p:=⟨w.heap.size+1,4,none⟩) (by simp) _).setCell (p:=⟨w.heap.size+1,5,none⟩) (by simp) _)
end BHelp
namespace BkEq
open BMem Bks ILists BHelp
open IBalsFit (St one_more)
def Fits(b:Bk):Prop:=b.ac.length≤9223372036854775807∧b.ic.length≤9223372036854775807∧b.bs.length≤9223372036854775807∧b.ls.length≤9223372036854775807∧b.ts.length≤9223372036854775807
structure Two(w W:World)(x y:Bx):Prop where
 rx:Rd W x
 ry:Rd W y
 cx:Cl W w.heap.size x
 cy:Cl W (w.heap.size+1) y
 b:Below w.heap.size w W
 s:w.heap.size+1<W.heap.size
theorem Two.step{w W W':World}{x y:Bx}(h:Two w W x y)(k:Below W.heap.size W W'):Two w W' x y:=
 ⟨h.rx.below k,h.ry.below k,h.cx.below k (by have:=h.s;omega),h.cy.below k h.s,h.b.trans (k.mono h.b.size),Nat.lt_of_lt_of_le h.s k.size⟩
theorem Two.start{w:World}{x y:Bx}(hx:Rd w x)(hy:Rd w y)(e:TypeId):Two w ((w.alloc (.cells #[.slice (some ⟨x.ga,0,none⟩) x.b.ac.length x.ca,.slice (some ⟨x.gi,0,none⟩) x.b.ic.length x.ci,.slice (some ⟨x.gb,0,none⟩) x.b.bs.length x.cb,.slice (some ⟨x.gl,0,none⟩) x.b.ls.length x.cl,.slice (some ⟨x.gt,0,none⟩) x.b.ts.length x.ct,.int .i64 x.b.lot] e)).alloc (.cells #[.slice (some ⟨y.ga,0,none⟩) y.b.ac.length y.ca,.slice (some ⟨y.gi,0,none⟩) y.b.ic.length y.ci,.slice (some ⟨y.gb,0,none⟩) y.b.bs.length y.cb,.slice (some ⟨y.gl,0,none⟩) y.b.ls.length y.cl,.slice (some ⟨y.gt,0,none⟩) y.b.ts.length y.ct,.int .i64 y.b.lot] e)) x y:=by
 have c:=boxed (w.alloc (.cells #[.slice (some ⟨x.ga,0,none⟩) x.b.ac.length x.ca,.slice (some ⟨x.gi,0,none⟩) x.b.ic.length x.ci,.slice (some ⟨x.gb,0,none⟩) x.b.bs.length x.cb,.slice (some ⟨x.gl,0,none⟩) x.b.ls.length x.cl,.slice (some ⟨x.gt,0,none⟩) x.b.ts.length x.ct,.int .i64 x.b.lot] e)) y e
 have c':Cl ((w.alloc (.cells #[.slice (some ⟨x.ga,0,none⟩) x.b.ac.length x.ca,.slice (some ⟨x.gi,0,none⟩) x.b.ic.length x.ci,.slice (some ⟨x.gb,0,none⟩) x.b.bs.length x.cb,.slice (some ⟨x.gl,0,none⟩) x.b.ls.length x.cl,.slice (some ⟨x.gt,0,none⟩) x.b.ts.length x.ct,.int .i64 x.b.lot] e)).alloc (.cells #[.slice (some ⟨y.ga,0,none⟩) y.b.ac.length y.ca,.slice (some ⟨y.gi,0,none⟩) y.b.ic.length y.ci,.slice (some ⟨y.gb,0,none⟩) y.b.bs.length y.cb,.slice (some ⟨y.gl,0,none⟩) y.b.ls.length y.cl,.slice (some ⟨y.gt,0,none⟩) y.b.ts.length y.ct,.int .i64 y.b.lot] e)) (w.heap.size+1) y:=by simpa using c
 exact⟨(hx.alloc _).alloc _,(hy.alloc _).alloc _,(boxed w x e).below (one_more _ _) (by simp),c',((Below.refl w.heap.size w).alloc (Nat.le_refl _) _).alloc (by simp) _,by simp⟩
theorem eqB(w:World)(x y:Bx)(hb:y.b=x.b)(hx:Rd w x)(hy:Rd w y):
  Calls Tryz.prog 32 #[.agg #[.slice (some ⟨x.ga,0,none⟩) x.b.ac.length x.ca,.slice (some ⟨x.gi,0,none⟩) x.b.ic.length x.ci,.slice (some ⟨x.gb,0,none⟩) x.b.bs.length x.cb,.slice (some ⟨x.gl,0,none⟩) x.b.ls.length x.cl,.slice (some ⟨x.gt,0,none⟩) x.b.ts.length x.ct,.int .i64 x.b.lot],.agg #[.slice (some ⟨y.ga,0,none⟩) y.b.ac.length y.ca,.slice (some ⟨y.gi,0,none⟩) y.b.ic.length y.ci,.slice (some ⟨y.gb,0,none⟩) y.b.bs.length y.cb,.slice (some ⟨y.gl,0,none⟩) y.b.ls.length y.cl,.slice (some ⟨y.gt,0,none⟩) y.b.ts.length y.ct,.int .i64 y.b.lot]] w fun e w'=>e= .returned (.bool true)∧Below w.heap.size w w':=by
 obtain⟨ga,ca,gi,ci,gb,cb,gl,cl,gt,ct,b⟩:=y
 obtain rfl:b=x.b:=hb
 have T0:=zh (Two.start hx hy 40)
 have na:=hx.na
 have ni:=hx.ni
 have nb:=hx.nb
 have nl:=hx.nl
 have nt:=hx.nt
 clear hx hy
 go_enter Tryz.func32,Tryz.ntmps32
 go_wp2_with fail
 refine(AccountHelp.eqS _ x.ga ga _ x.ca ca x.b.ac rfl na (zu T0).rx.la (zu T0).ry.la (zu T0).rx.ra (zu T0).ry.ra).mono ?_
 rintro e w1 ⟨rfl,bb⟩
 have T1:=zh ((zu T0).step bb)
 clear bb
 have p1:=(zu T1).cx.c1
 have r1:=(zu T1).cy.c1
 go_wp2_with fail
 refine(InstrHelp.eqS _ x.gi gi _ x.ci ci x.b.ic rfl ni (zu T1).rx.li (zu T1).ry.li (zu T1).rx.ri (zu T1).ry.ri).mono ?_
 rintro e w2 ⟨rfl,bb⟩
 have T2:=zh ((zu T1).step bb)
 clear bb
 have p2:=(zu T2).cx.c2
 have r2:=(zu T2).cy.c2
 go_wp2_with fail
 refine(BalHelp.eqS _ x.gb gb _ x.cb cb x.b.bs rfl nb (zu T2).rx.lb (zu T2).ry.lb (zu T2).rx.rb (zu T2).ry.rb).mono ?_
 rintro e w3 ⟨rfl,bb⟩
 have T3:=zh ((zu T2).step bb)
 clear bb
 have p3:=(zu T3).cx.c3
 have r3:=(zu T3).cy.c3
 go_wp2_with fail
 refine(LotHelp.eqS _ x.gl gl _ x.cl cl x.b.ls rfl nl (zu T3).rx.ll (zu T3).ry.ll (zu T3).rx.rl (zu T3).ry.rl).mono ?_
 rintro e w4 ⟨rfl,bb⟩
 have T4:=zh ((zu T3).step bb)
 clear bb
 have p4:=(zu T4).cx.c4
 have r4:=(zu T4).cy.c4
 go_wp2_with fail
 refine(TradeHelp.eqS _ x.gt gt _ x.ct ct x.b.ts rfl nt (zu T4).rx.lt (zu T4).ry.lt (zu T4).rx.rt (zu T4).ry.rt).mono ?_
 rintro e w5 ⟨rfl,bb⟩
 have T5:=zh ((zu T4).step bb)
 clear bb
 have p5:=(zu T5).cx.c5
 have r5:=(zu T5).cy.c5
 go_wp2
 go_ret
 exact⟨rfl,(zu T5).b⟩
def e1(b:Bk):Int:=1+2*(b.ac.length:Int)
def e2(b:Bk):Int:=e1 b+2*(b.ic.length:Int)
def e3(b:Bk):Int:=e2 b+3*(b.bs.length:Int)
def e4(b:Bk):Int:=e3 b+5*(b.ls.length:Int)
structure OwM(w:World)(base:Nat)(x:Bx):Prop where
 oa:Pairs.Own 143 w base x.ga x.b.ac.length x.ca (AccountMark.marks 1 x.b.ac.length)
 oi:Pairs.Own 144 w base x.gi x.b.ic.length x.ci (InstrMark.marks (e1 x.b) x.b.ic.length)
 ob:Triples.Own3 146 w base x.gb x.b.bs.length x.cb (BalHelp.marks (e2 x.b) x.b.bs.length)
 ol:Tup5.Own5 148 w base x.gl x.b.ls.length x.cl (LotHelp.marks (e3 x.b) x.b.ls.length)
 ot:Tup8.Own8 141 w base x.gt x.b.ts.length x.ct (TradeHelp.marks (e4 x.b) x.b.ts.length)
theorem OwM.below{w w':World}{base:Nat}{x:Bx}(h:OwM w base x)(k:Below w.heap.size w w'):OwM w' base x:=
 ⟨h.oa.below k h.oa.lt.2,h.oi.below k h.oi.lt.2,h.ob.below k h.ob.lt.2,h.ol.below k h.ol.lt.2,h.ot.below k h.ot.lt.2⟩
end BkEq
namespace SBytes
theorem zh{p:Prop}(h:p):Hid p:=h
theorem zu{p:Prop}(h:Hid p):p:=h
def AtB(w:World)(g:Nat)(xs:List Int):Prop:=∀i,i<xs.length→w.cell? ⟨g,i,none⟩=some (.int .u8 (xs.getD i 0))∧0≤xs.getD i 0∧xs.getD i 0≤255
def stepC(p:Int×Int)(d:Int):Int×Int:=((p.1+d+1)%65535,(p.2+(p.1+d+1)%65535)%65535)
def chk(xs:List Int):Nat→Int×Int
 |0=>(0,0)
 |k+1=>stepC (chk xs k) (xs.getD k 0)
theorem chk_in(xs:List Int)(k:Nat):0≤(chk xs k).1∧(chk xs k).1<65535∧0≤(chk xs k).2∧(chk xs k).2<65535:=by
 cases k with
 |zero=>simp[chk]
 |succ k=>simp only[chk,stepC];omega
theorem AtB.below{w w':World}{g B:Nat}{xs:List Int}(h:AtB w g xs)(k:Below B w w')(hg:g<B):AtB w' g xs:=fun i hi=>⟨(k.cell (p:=⟨g,i,none⟩) hg).trans (h i hi).1,(h i hi).2⟩
def chkB(xs:List Int):Int:=65536*(chk xs xs.length).2+(chk xs xs.length).1
theorem tmod_pos(a:Int)(h:0≤a):a.tmod 65535=a%65535:=Int.tmod_eq_emod_of_nonneg h
theorem sCheck(w:World)(g cap:Nat)(xs:List Int)(h20:xs.length≤1048576)(hr:AtB w g xs):
  Calls Tryz.prog 59 #[.slice (some ⟨g,0,none⟩) xs.length cap] w fun e w'=>e= .returned (.int .i64 (65536*(chk xs xs.length).2+(chk xs xs.length).1))∧w'=w:=by
 have R:=zh hr
 clear hr
 go_enter Tryz.func59,Tryz.ntmps59
 go_wp2
 go_loopw [3,4,5] (fun a b i wr=>∃(k:Nat) (x y:Int),k≤xs.length∧i= .int .i64 k∧a= .int .i64 x∧b= .int .i64 y∧Hid ((x,y)=chk xs k)∧wr=w) (fun _ _ i _=>xs.length-(intOf i).toNat)
 case atStart=>exact⟨0,0,0,by omega,rfl,rfl,rfl,rfl,rfl⟩
 case round=>
  obtain⟨k,x,y,hk,rfl,rfl,rfl,HC,rfl⟩:=hrel
  have q:=chk_in xs k
  rw[←zu HC] at q
  obtain⟨q0,q1,q2,q3⟩:=q
  simp only at q0 q1 q2 q3
  by_cases t:k<xs.length
  ·obtain⟨d,d0,d1⟩:=(zu R) k t
   have N:=zh (show((x+xs.getD k 0+1)%65535,(y+(x+xs.getD k 0+1)%65535)%65535)=chk xs (k+1) from by simp only[chk];rw[←zu HC];rfl)
   clear HC
   generalize xs.getD k 0=v at *
   have a1:wrap64 (x+v)=x+v:=by rw[wrap64];omega
   have a2:wrap64 (x+v+1)=x+v+1:=by rw[wrap64];omega
   have a3:(x+v+1).tmod 65535=(x+v+1)%65535:=tmod_pos _ (by omega)
   have m1:0≤(x+v+1)%65535∧(x+v+1)%65535<65535:=by omega
   generalize (x+v+1)%65535=m at *
   have a4:wrap64 m=m:=by rw[wrap64];omega
   have a5:wrap64 (y+m)=y+m:=by rw[wrap64];omega
   have a6:(y+m).tmod 65535=(y+m)%65535:=tmod_pos _ (by omega)
   have m2:0≤(y+m)%65535∧(y+m)%65535<65535:=by omega
   generalize (y+m)%65535=n at *
   have a7:wrap64 n=n:=by rw[wrap64];omega
   have a8:wrap64 v=v:=by rw[wrap64];omega
   go_wp2
   go_roundw
   case rel=>exact⟨k+1,m,n,by omega,by go_num,by simp[a1,a2,a3,a4],by simp[a1,a2,a3,a4,a5,a6,a7],N,trivial⟩
   case measure=>simp[intOf];omega
  ·have e:k=xs.length:=by omega
   subst e
   have a1:wrap64 (65536*y)=65536*y:=by rw[wrap64];omega
   have a2:wrap64 (65536*y+x)=65536*y+x:=by rw[wrap64];omega
   have c1:x=(chk xs xs.length).1:=congrArg Prod.fst (zu HC)
   have c2:y=(chk xs xs.length).2:=congrArg Prod.snd (zu HC)
   have C1:=zh c1
   have C2:=zh c2
   clear c1 c2
   go_wp2
   go_ret
   exact⟨by rw[←zu C1,←zu C2];simp[a1,a2],rfl⟩
end SBytes
namespace ByteH
theorem info8:(Tryz.prog.info? 5).map (fun i=>(i.zero,i.size,i.bytes))=some (some (.int .u8 0),1,1):=by kernel_rfl
def At(w:World)(g:Nat)(xs:List Int):Prop:=∀i,i<xs.length→w.cell? ⟨g,i,none⟩=some (.int .u8 (xs.getD i 0))
def Reads(w:World)(a:Option Addr)(xs:List Int):Prop:=
 xs.length=0∨∃b off,a=some ⟨b,off,none⟩∧b<w.heap.size∧∀i,i<xs.length→w.cell? ⟨b,off+i,none⟩=some (.int .u8 (xs.getD i 0))
def Own(w:World)(base g n cap:Nat)(xs:List Int):Prop:=w.ownsRow base 5 1 (.slice (some ⟨g,0,none⟩) n cap) n (xs.map (Value.int .u8))
theorem Own.len{w:World}{base g n cap:Nat}{xs:List Int}(h:Own w base g n cap xs):xs.length=n:=by
 have:=h.1
 simpa using this
theorem Own.lt{w:World}{base g n cap:Nat}{xs:List Int}(h:Own w base g n cap xs):base≤g∧g<w.heap.size:=World.ownsRow.lt h g rfl
theorem Own.at{w:World}{base g n cap:Nat}{xs:List Int}(h:Own w base g n cap xs):At w g xs:=by
 intro i hi
 have hl:=h.len
 have:=World.ownsRow.cellAt h i (by omega)
 rw[this]
 simp[List.getD,hi]
theorem Own.free{w:World}{base g n cap:Nat}{xs:List Int}(h:Own w base g n cap xs)(i:Nat):w.frozen? ⟨g,i,none⟩=false:=World.ownsRow.frozenAt h i
theorem Own.mono{w:World}{base base' g n cap:Nat}{xs:List Int}(h:Own w base g n cap xs)(hb:base'≤base):Own w base' g n cap xs:=by
 refine⟨h.1,?_⟩
 rcases h.2 with⟨h1,_⟩|⟨g',c,cur,h1,h2,h3⟩
 ·simp at h1
 ·exact Or.inr ⟨g',c,cur,h1,Nat.le_trans hb h2,h3⟩
theorem Own.rebase{w:World}{base base' g n cap:Nat}{xs:List Int}(h:Own w base g n cap xs)(hb:base'≤g):Own w base' g n cap xs:=by
 refine⟨h.1,?_⟩
 rcases h.2 with⟨h1,_⟩|⟨g',c,cur,h1,h2,h3⟩
 ·simp at h1
 ·obtain⟨e,_⟩:g=g'∧cap=c:=by simpa using h1
  subst e
  exact Or.inr ⟨g,c,cur,h1,hb,h3⟩
theorem Own.kept{w w':World}{base g n cap:Nat}{xs:List Int}{row:Option Nat}(h:Own w base g n cap xs)(k:w.grownBy w' row)(hne:some g≠row):Own w' base g n cap xs:=
 World.ownsRow.kept h k (Or.inr hne)
theorem Own.below{w w':World}{base g n cap B:Nat}{xs:List Int}(h:Own w base g n cap xs)(k:Below B w w')(hg:g<B):Own w' base g n cap xs:=by
 refine⟨h.1,?_⟩
 rcases h.2 with⟨h1,_⟩|⟨g',c,cur,h1,h2,h3,h4⟩
 ·simp at h1
 ·obtain⟨e,_⟩:g=g'∧cap=c:=by simpa using h1
  subst e
  exact Or.inr ⟨g,c,cur,h1,h2,by rw[k.block g hg];exact h3,h4⟩
theorem At.below{w w':World}{g B:Nat}{xs:List Int}(h:At w g xs)(k:Below B w w')(hg:g<B):At w' g xs:=fun i hi=>(k.cell (p:=⟨g,i,none⟩) hg).trans (h i hi)
theorem Reads.below{w w':World}{a:Option Addr}{xs:List Int}(h:Reads w a xs)(k:Below w.heap.size w w'):Reads w' a xs:=by
 rcases h with h|⟨b,off,rfl,hb,hc⟩
 ·exact Or.inl h
 ·exact Or.inr ⟨b,off,rfl,Nat.lt_of_lt_of_le hb k.size,fun i hi=>(k.cell (p:=⟨b,off+i,none⟩) hb).trans (hc i hi)⟩
theorem Own.set{w:World}{base g n cap:Nat}{xs:List Int}(h:Own w base g n cap xs)(i:Nat)(x:Int):
  Own (w.setCell ⟨g,i,none⟩ (.int .u8 x)) base g n cap (xs.set i x)∧w.grownBy (w.setCell ⟨g,i,none⟩ (.int .u8 x)) (some g):=by
 have:=World.ownsRow.stored h i (.int .u8 x)
 refine⟨?_,this.2⟩
 unfold Own
 rw[List.map_set]
 exact this.1
end ByteH
namespace SPut11
open SBytes
open ByteH (Own At)
theorem own_of_row{w:World}{base n n':Nat}{v:Value}{vs:List Value}{xs:List Int}(h:w.ownsRow base 5 1 v n vs)(hn:n=n')(e:vs=xs.map (Value.int .u8))(hv:¬v= .slice none 0 0):
  ∃g c,v= .slice (some ⟨g,0,none⟩) n' c∧Own w base g n' c xs:=by
 subst hn e
 have h':=h
 rcases h.2 with⟨h1,_⟩|⟨g,c,cur,rfl,_⟩
 ·exact absurd h1 hv
 ·exact⟨g,c,rfl,h'⟩
theorem own_alloc{w:World}{base g n cap:Nat}{xs:List Int}(h:Own w base g n cap xs)(o:Obj):Own (w.alloc o) base g n cap xs:=World.ownsRow.alloc h o
theorem lit0(w:World)(base:Nat){g:Nat}(hb:base≤w.heap.size)(hg:g=w.heap.size):Own (w.alloc (.cells #[] 5)) base g 0 0 []:=by
 subst hg
 exact World.ownsRow_lit w #[] 0 hb (by decide) rfl
def AtO(w:World)(g o:Nat)(xs:List Int):Prop:=∀i,i<xs.length→w.cell? ⟨g,o+i,none⟩=some (.int .u8 (xs.getD i 0))
theorem AtO.of{w:World}{g:Nat}{xs:List Int}(h:At w g xs):AtO w g 0 xs:=fun i hi=>by rw[Nat.zero_add];exact h i hi
theorem wp_catB(u:World){ops:Array Oper}{rest:List Oper}{o:Oper}{a:Act}{Q:Exit→Act→World→Prop}(hgd:o.guard=none)(s x:Operand)
  (ho:o.op= .call {callee:= .builtin .append,args:= #[s,x],argTypes:= #[63,63]})(base g n cap m:Nat)(xs ys:List Int)(vb off c:Nat)
  (hs:a.eval s= .slice (some ⟨g,0,none⟩) n cap)(hx:a.eval x= .slice (some ⟨vb,off,none⟩) m c)(hown:Own u base g n cap xs)(hl:ys.length=m)(hv:AtO u vb off ys)(hn:n+m≤9223372036854)(hb:base≤u.heap.size)
  (h:∀g' c' w',Own w' base g' (n+m) c' (xs++ys)→u.grownBy w' (some g)→(g'=g∨g'=u.heap.size)→wpList Tryz.prog ops Q rest (a.put o.dst (.slice (some ⟨g',0,none⟩) (n+m) c')) w'):wpList Tryz.prog ops Q (o::rest) a u:=by
 obtain⟨i0,hi,hz0,hz1,hz2⟩:=info_parts ByteH.info8
 refine wpList_append_own_at u hgd s x 63 ho base 5 i0 (.int .u8 0) 1 1 Tryz.underlying63 hi hz0 hz1 hz2 rfl (by decide) _ n _ hs hown ⟨vb,off,none⟩ m c (ys.map (Value.int .u8)) hx (by simp[hl]) (fun j v hj=>by
  have hj':j<ys.length:=by
   have:=(List.getElem?_eq_some_iff.1 hj).1
   simpa using this
  have:=hv j hj'
  rw[Addr.add_lit,this]
  rw[←hj]
  simp[List.getD,hj']) (by intro u hu;obtain⟨y,_,rfl⟩:=List.mem_map.1 hu;simp[Value.oneCell']) (by unfold maxLen;omega) (by omega) hb ?_
 intro v' w' own' gr' nil' loc'
 obtain⟨g',c',rfl,o'⟩:=own_of_row (n':=n+m) (xs:=xs++ys) own' rfl (by simp) (by rw[nil'];simp)
 exact h g' c' w' o' gr' (by simpa[Value.ownBlock] using loc')
theorem lit_one(w:World)(y:Int):AtO (w.alloc (.cells #[.int .u8 y] 5)) w.heap.size 0 [y]:=by
 intro i hi
 have:i=0:=by simpa using hi
 subst this
 simp
def numF(x:Nat):List Int:=if 127<x then((x%128+128:Nat):Int)::numF (x/128) else[(x:Int)]
termination_by x
theorem numF_more{x:Nat}(h:127<x):numF x=((x%128+128:Nat):Int)::numF (x/128):=by rw[numF,if_pos h]
theorem numF_last{x:Nat}(h:¬127<x):numF x=[(x:Int)]:=by rw[numF,if_neg h]
theorem numF_len(n:Nat):∀x:Nat,x<128^(n+1)→(numF x).length≤n+1:=by
 induction n with
 |zero=>intro x h;rw[numF_last (by omega)];simp
 |succ n ih=>
  intro x h
  by_cases t:127<x
  ·rw[numF_more t]
   have:=ih (x/128) (by rw[Nat.pow_succ] at h;omega)
   simp
   omega
  ·rw[numF_last t];simp
theorem numF_in(n:Nat):∀x:Nat,x<128^(n+1)→∀y∈numF x,0≤y∧y≤255:=by
 induction n with
 |zero=>
  intro x h y hy
  rw[numF_last (by omega)] at hy
  simp at hy
  omega
 |succ n ih=>
  intro x h y hy
  by_cases t:127<x
  ·rw[numF_more t] at hy
   rcases List.mem_cons.1 hy with rfl|hy
   ·omega
   ·exact ih (x/128) (by rw[Nat.pow_succ] at h;omega) y hy
  ·rw[numF_last t] at hy
   simp at hy
   omega
def numB(x:Int):List Int:=if x<0 then[] else numF x.toNat
theorem numF_nine{x:Nat}(h:x≤9223372036854775807):(numF x).length≤9:=numF_len 8 x (by omega)
theorem numB_nine{x:Int}(h:x≤9223372036854775807):(numB x).length≤9:=by
 unfold numB
 split
 ·simp
 ·exact numF_nine (by omega)
theorem one_more(w:World)(o:Obj):Below w.heap.size w (w.alloc o):=(Below.refl _ _).alloc (Nat.le_refl _) _
theorem sPutNum(w:World)(x0:Int)(hx:x0≤9223372036854775807):
  Calls Tryz.prog 25 #[.int .i64 x0] w fun e w'=>∃g c,e= .returned (.slice (some ⟨g,0,none⟩) (numB x0).length c)∧Own w' w.heap.size g (numB x0).length c (numB x0)∧Below w.heap.size w w':=by
 have O0:=zh (lit0 w w.heap.size (Nat.le_refl _) rfl)
 have B0:=zh (one_more w (.cells #[] 5))
 by_cases h0:x0<0
 ·have e:numB x0=[]:=if_pos h0
  rw[e]
  clear e hx
  go_enter Tryz.func25,Tryz.ntmps25
  go_wp2
  go_ret
  exact⟨w.heap.size,0,rfl,zu O0,zu B0⟩
 have e:numB x0=numF x0.toNat:=if_neg h0
 rw[e]
 have L:=zh (numF_nine (x:=x0.toNat) (by omega))
 clear e
 obtain⟨r,hr⟩:∃r,Hid (numF x0.toNat=r):=⟨_,rfl⟩
 rw[zu hr] at L⊢
 have h1:0≤x0:=by omega
 have S0:=zh (show([]:List Int)++numF x0.toNat=r from zu hr)
 clear hr h0
 go_enter Tryz.func25,Tryz.ntmps25
 go_wp2
 go_loopw [0,3] (fun a l wr=>∃(x:Int) (p:List Int) (g c:Nat),a= .int .i64 x∧l= .slice (some ⟨g,0,none⟩) p.length c∧0≤x∧x≤9223372036854775807∧Hid (p++numF x.toNat=r)∧Hid (Own wr w.heap.size g p.length c p)∧Hid (Below w.heap.size w wr)) (fun a _ _=>(intOf a).toNat)
 case atStart=>exact⟨x0,[],w.heap.size,0,rfl,rfl,h1,hx,S0,O0,B0⟩
 case round=>
  clear O0 B0 S0 hx h1
  obtain⟨x,p,g,c,rfl,rfl,x1,x2,HR,HO,HB⟩:=hrel
  have bs:=(zu HB).size
  have pl:p.length≤9:=by have a:=zu L;rw[←zu HR] at a;simp at a;omega
  have og:=(zu HO).lt
  have HX:=zh (And.intro x1 x2)
  by_cases t:127<x
  ·have N:=zh (show(p++[x%128+128])++numF (x/128).toNat=r from by
    rw[←zu HR,numF_more (x:=x.toNat) (by omega),List.append_assoc]
    have e1:((x.toNat%128+128:Nat):Int)=x%128+128:=by omega
    have e2:x.toNat/128=(x/128).toNat:=by omega
    rw[e1,e2];rfl)
   have E:=zh (show wrap64 (x.tdiv 128)=x/128 from by rw[Int.tdiv_eq_ediv_of_nonneg x1,wrap64];omega)
   clear HR x1 x2
   go_wp2_with (first|(at_builtin;refine wp_catB _ rfl _ _ rfl w.heap.size g p.length c 1 p [x%128+128] wr.heap.size 0 1 rfl rfl (own_alloc (zu HO) _) rfl (lit_one _ _) (by omega) (by simp;omega) ?_)|go_in)
   intro g5 c5 w5 o5 gr5 loc5
   have O5:=zh o5
   have B5:=zh (((zu HB).alloc (by omega) (.cells #[.int .u8 (x%128+128)] 5)).grown gr5 (by simp;omega) (fun j hj=>by cases hj;exact og.1))
   clear o5 gr5 loc5
   go_wp2
   go_roundw
   case rel=>
    have xx:=zu HX
    exact⟨x/128,p++[x%128+128],g5,c5,congrArg (Value.int .i64) (zu E),by rw[show(p++[x%128+128]).length=p.length+1 by simp],by omega,by omega,N,zh (by rw[show(p++[x%128+128]).length=p.length+1 by simp];exact zu O5),B5⟩
   case measure=>
    have xx:=zu HX
    have e:=zu E
    simp[intOf,e]
    omega
  ·have N:=zh (show p++[x]=r from by
    rw[←zu HR,numF_last (x:=x.toNat) (by omega)]
    have e1:((x.toNat:Nat):Int)=x:=by omega
    rw[e1])
   clear HR
   go_wp2_with (first|(at_builtin;refine wp_catB _ rfl _ _ rfl w.heap.size g p.length c 1 p [x] wr.heap.size 0 1 rfl rfl (own_alloc (zu HO) _) rfl (lit_one _ _) (by omega) (by simp;omega) ?_)|go_in)
   intro g5 c5 w5 o5 gr5 loc5
   have O5:=zh o5
   have B5:=zh (((zu HB).alloc (by omega) (.cells #[.int .u8 x] 5)).grown gr5 (by simp;omega) (fun j hj=>by cases hj;exact og.1))
   clear o5 gr5 loc5
   go_wp2
   go_ret
   have e:=zu N
   have e1:r.length=p.length+1:=by rw[←e];simp
   exact⟨g5,c5,by rw[e1];rfl,by rw[e1,←e];exact zu O5,zu B5⟩
end SPut11
namespace SPuts11
open SBytes SPut11
open ByteH (Own At)
def numsB(xs:List Int):List Int:=if ∀i,i<xs.length→0≤xs.getD i 0 then xs.flatMap numB else[]
theorem flat_next{xs:List Int}{k:Nat}(h:k<xs.length):(xs.take (k+1)).flatMap numB=(xs.take k).flatMap numB++numB (xs.getD k 0):=by
 rw[List.take_succ_eq_append_getElem h,List.flatMap_append]
 simp[List.getD,h]
theorem flat_len(xs:List Int)(h:∀i,i<xs.length→xs.getD i 0≤9223372036854775807)(k:Nat)(hk:k≤xs.length):((xs.take k).flatMap numB).length≤9*k:=by
 induction k with
 |zero=>simp
 |succ k ih=>
  rw[flat_next (by omega),List.length_append]
  have a:=ih (by omega)
  have b:=numB_nine (h k (by omega))
  omega
theorem numB_pos{x:Int}(h:0≤x):numB x=numF x.toNat:=if_neg (by omega)
theorem sPutNums(w:World)(gl cl:Nat)(xs:List Int)(h20:xs.length≤1048576)(hg:gl<w.heap.size)(hr:Ints.At w gl xs)(hi:∀i,i<xs.length→xs.getD i 0≤9223372036854775807):
  Calls Tryz.prog 57 #[.slice (some ⟨gl,0,none⟩) xs.length cl] w fun e w'=>∃g c,e= .returned (.slice (some ⟨g,0,none⟩) (numsB xs).length c)∧Own w' w.heap.size g (numsB xs).length c (numsB xs)∧Below w.heap.size w w':=by
 have O0:=zh (lit0 w w.heap.size (Nat.le_refl _) rfl)
 have B0:=zh (one_more w (.cells #[] 5))
 have R:=zh hr
 have HI:=zh hi
 have HG:=zh hg
 obtain⟨r,hq⟩:∃r,Hid (numsB xs=r):=⟨_,rfl⟩
 rw[zu hq]
 clear hr hi hg
 go_enter Tryz.func57,Tryz.ntmps57
 go_wp2
 go_loopw [3,4] (fun l a wr=>∃(k g c n:Nat),a= .int .i64 k∧k≤xs.length∧l= .slice (some ⟨g,0,none⟩) n c∧n≤9*k∧Hid (n=((xs.take k).flatMap numB).length)∧Hid (∀i,i<k→0≤xs.getD i 0)∧Hid (Own wr w.heap.size g n c ((xs.take k).flatMap numB))∧Hid (Below w.heap.size w wr)) (fun _ a _=>xs.length-(intOf a).toNat)
 case atStart=>exact⟨0,w.heap.size,0,0,rfl,by omega,rfl,by omega,zh (by simp),zh (fun i h=>absurd h (by omega)),zh (by simpa using zu O0),B0⟩
 case round=>
  clear O0 B0
  obtain⟨k,g,c,n,rfl,hk,rfl,nk,HN,HP,HO,HB⟩:=hrel
  have bs:=(zu HB).size
  have og:=(zu HO).lt
  by_cases t:k<xs.length
  ·have d:=(((zu R).below (zu HB) (zu HG)) k t)
   have NX:=zh (flat_next t)
   have HX:=zh ((zu HI) k t)
   have SG:=zh (show 0≤xs.getD k 0→∀i,i<k+1→0≤xs.getD i 0 from fun h i hi=>by
    by_cases e:i=k
    ·subst e;exact h
    ·exact(zu HP) i (by omega))
   have BAD:=zh (show xs.getD k 0<0→r=[] from fun h=>by rw[←zu hq];exact if_neg (fun a=>by have:=a k t;omega))
   clear HP
   generalize xs.getD k 0=y at *
   have kx:(k:Int)<xs.length:=by omega
   by_cases y0:y<0
   ·have e:=(zu BAD) y0
    subst e
    have O5:=zh (lit0 wr w.heap.size bs rfl)
    have B5:=zh ((zu HB).alloc bs (.cells #[] 5))
    clear BAD SG NX HX hq HI R
    go_wp2
    go_ret
    exact⟨_,0,rfl,zu O5,zu B5⟩
   ·have S1:=zh ((zu SG) (by omega))
    have nine:=numB_nine (zu HX)
    have xl:=zu HX
    clear BAD SG
    go_wp2_with fail
    refine(sPutNum _ y xl).mono ?_
    rintro e u ⟨g1,c1,rfl,o1,b1⟩
    have O1:=zh o1
    have B1:=zh ((zu HB).trans (b1.mono bs))
    have HO1:=zh ((zu HO).below b1 og.2)
    have us:=b1.size
    clear o1 b1
    go_wp2_with (first|(at_builtin;refine wp_catB _ rfl _ _ rfl w.heap.size g n c (numB y).length _ (numB y) g1 0 c1 rfl rfl (zu HO1) rfl (AtO.of (zu O1).at) (by omega) (by omega) ?_)|go_in)
    intro g5 c5 w5 o5 gr5 loc5
    have O5:=zh o5
    have B5:=zh ((zu B1).grown gr5 (by omega) (fun j hj=>by cases hj;exact og.1))
    clear o5 gr5 loc5
    go_wp2
    go_roundw
    case rel=>exact⟨k+1,g5,c5,n+(numB y).length,by go_num,by omega,rfl,by omega,zh (by rw[zu NX,List.length_append,←zu HN]),S1,zh (by rw[zu NX];exact zu O5),B5⟩
    case measure=>simp[intOf];omega
  ·have e:k=xs.length:=by omega
   subst e
   have E:=zh (show xs.flatMap numB=r from by rw[←zu hq];exact(if_pos (zu HP)).symm)
   have N:=zu HN
   have O:=zu HO
   rw[List.take_length] at N O
   rw[zu E] at N O
   have O5:=zh O
   have N5:=zh N
   clear N O HN HO HP
   go_wp2
   go_ret
   have e:=zu N5
   subst e
   exact⟨g,c,rfl,zu O5,zu HB⟩
theorem own_of_rowI{w:World}{base n n':Nat}{v:Value}{vs:List Value}{xs:List Int}(h:w.ownsRow base 3 1 v n vs)(hn:n=n')(e:vs=xs.map (Value.int .i64))(hv:¬v= .slice none 0 0):
  ∃g c,v= .slice (some ⟨g,0,none⟩) n' c∧Ints.Own w base g n' c xs:=by
 subst hn e
 have h':=h
 rcases h.2 with⟨h1,_⟩|⟨g,c,cur,rfl,_⟩
 ·exact absurd h1 hv
 ·exact⟨g,c,rfl,h'⟩
theorem own_allocI{w:World}{base g n cap:Nat}{xs:List Int}(h:Ints.Own w base g n cap xs)(o:Obj):Ints.Own (w.alloc o) base g n cap xs:=World.ownsRow.alloc h o
end SPuts11
namespace SNums13
open BMem Bks SPuts11
open IBalsFit (St one_more)
open Bals (T3 el3)
open Tup5 (T5 el5)
open Tup8 (T8 el8)
def AtI(w:World)(g:Nat)(xs:List Int):Prop:=∀i,i<xs.length→w.cell? ⟨g,i,none⟩=some (.int .i64 (xs.getD i 0))
theorem wp_catI(u:World){ops:Array Oper}{rest:List Oper}{o:Oper}{a:Act}{Q:Exit→Act→World→Prop}(hgd:o.guard=none)(s x:Operand)
  (ho:o.op= .call {callee:= .builtin .append,args:= #[s,x],argTypes:= #[96,96]})(base g n cap m:Nat)(xs ys:List Int)(vb c:Nat)
  (hs:a.eval s= .slice (some ⟨g,0,none⟩) n cap)(hx:a.eval x= .slice (some ⟨vb,0,none⟩) m c)(hown:Ints.Own u base g n cap xs)(hl:ys.length=m)(hv:AtI u vb ys)(hn:n+m≤100000000)(hb:base≤u.heap.size)
  (h:∀g' c' w',Ints.Own w' base g' (n+m) c' (xs++ys)→u.grownBy w' (some g)→(g'=g∨g'=u.heap.size)→wpList Tryz.prog ops Q rest (a.put o.dst (.slice (some ⟨g',0,none⟩) (n+m) c')) w'):wpList Tryz.prog ops Q (o::rest) a u:=by
 obtain⟨i0,hi,hz0,hz1,hz2⟩:=info_parts Ints.info3
 refine wpList_append_own_at u hgd s x 96 ho base 3 i0 (.int .i64 0) 1 8 Tryz.underlying96 hi hz0 hz1 hz2 rfl (by decide) _ n _ hs hown ⟨vb,0,none⟩ m c (ys.map (Value.int .i64)) hx (by simp[hl]) (fun j v hj=>by
  have hj':j<ys.length:=by
   have:=(List.getElem?_eq_some_iff.1 hj).1
   simpa using this
  have:=hv j hj'
  rw[Addr.add_lit,Nat.zero_add,this]
  rw[←hj]
  simp[List.getD,hj']) (by intro u hu;obtain⟨y,_,rfl⟩:=List.mem_map.1 hu;simp[Value.oneCell']) (by unfold maxLen;omega) (by omega) hb ?_
 intro v' w' own' gr' nil' loc'
 obtain⟨g',c',rfl,o'⟩:=own_of_rowI (n':=n+m) (xs:=xs++ys) own' rfl (by simp) (by rw[nil'];simp)
 exact h g' c' w' o' gr' (by simpa[Value.ownBlock] using loc')
theorem step_catI(u:World){ops:Array Oper}{o:Oper}{a:Act}{K:Act→World→Prop}{Q:Exit→Act→World→Prop}{E:Prop}(hgd:o.guard=none)(s x:Operand)
  (ho:o.op= .call {callee:= .builtin .append,args:= #[s,x],argTypes:= #[96,96]})(base g n cap m:Nat)(xs ys:List Int)(vb c:Nat)
  (hs:a.eval s= .slice (some ⟨g,0,none⟩) n cap)(hx:a.eval x= .slice (some ⟨vb,0,none⟩) m c)(hown:Ints.Own u base g n cap xs)(hl:ys.length=m)(hv:AtI u vb ys)(hn:n+m≤100000000)(hb:base≤u.heap.size)
  (h:∀g' c' w',Ints.Own w' base g' (n+m) c' (xs++ys)→u.grownBy w' (some g)→(g'=g∨g'=u.heap.size)→K (a.put o.dst (.slice (some ⟨g',0,none⟩) (n+m) c')) w'):if Region.wanted o (yielded ops a.tmps)=true then Oper.wp Tryz.prog o a u K Q else E:=by
 obtain⟨i0,hi,hz0,hz1,hz2⟩:=info_parts Ints.info3
 have hw:Region.wanted o (yielded ops a.tmps)=true:=by simp[Region.wanted,hgd]
 rw[if_pos hw]
 obtain⟨v',w',hr,own',gr',nil',loc'⟩:=run_append_own_at (P:=Tryz.prog) u base 96 o.type 3 i0 (.int .i64 0) 1 8 Tryz.underlying96 hi hz0 hz1 hz2 rfl (by decide) (.slice (some ⟨g,0,none⟩) n cap) n (xs.map (Value.int .i64)) hown ⟨vb,0,none⟩ m c (ys.map (Value.int .i64)) (by simp[hl]) (fun j v hj=>by
  have hj':j<ys.length:=by
   have:=(List.getElem?_eq_some_iff.1 hj).1
   simpa using this
  have:=hv j hj'
  rw[Addr.add_lit,Nat.zero_add,this]
  rw[←hj]
  simp[List.getD,hj']) (by intro u hu;obtain⟨y,_,rfl⟩:=List.mem_map.1 hu;simp[Value.oneCell']) (by unfold maxLen;omega) (by omega) hb
 unfold Oper.wp execOp
 simp only[ho,resolve,invoke,builtin,Sem.run_bind,Sem.run_pure,Result.andThen_ok,List.map_toArray,List.map_cons,List.map_nil,hs,hx,hr]
 obtain⟨g',c',rfl,o'⟩:=own_of_rowI (n':=n+m) (xs:=xs++ys) own' rfl (by simp) (by rw[nil'];simp)
 exact h g' c' w' o' gr' (by simpa[Value.ownBlock] using loc')
theorem lit1(w:World)(a:Int):AtI (w.alloc (.cells #[.int .i64 a] 3)) w.heap.size [a]:=by
 intro i hi
 have:i=0:=by simpa using hi
 subst this
 simp
theorem lit2(w:World)(a b:Int):AtI (w.alloc (.cells #[.int .i64 a,.int .i64 b] 3)) w.heap.size [a,b]:=by
 intro i hi
 have:i=0∨i=1:=by simp at hi;omega
 rcases this with rfl|rfl<;>simp
theorem lit3(w:World)(a b c:Int):AtI (w.alloc (.cells #[.int .i64 a,.int .i64 b,.int .i64 c] 3)) w.heap.size [a,b,c]:=by
 intro i hi
 have:i=0∨i=1∨i=2:=by simp at hi;omega
 rcases this with rfl|rfl|rfl<;>simp
theorem lit5(w:World)(a b c d e:Int):AtI (w.alloc (.cells #[.int .i64 a,.int .i64 b,.int .i64 c,.int .i64 d,.int .i64 e] 3)) w.heap.size [a,b,c,d,e]:=by
 intro i hi
 have:i=0∨i=1∨i=2∨i=3∨i=4:=by simp at hi;omega
 rcases this with rfl|rfl|rfl|rfl|rfl<;>simp
theorem lit8(w:World)(a b c d e f g h:Int):AtI (w.alloc (.cells #[.int .i64 a,.int .i64 b,.int .i64 c,.int .i64 d,.int .i64 e,.int .i64 f,.int .i64 g,.int .i64 h] 3)) w.heap.size [a,b,c,d,e,f,g,h]:=by
 intro i hi
 have:i=0∨i=1∨i=2∨i=3∨i=4∨i=5∨i=6∨i=7:=by simp at hi;omega
 rcases this with rfl|rfl|rfl|rfl|rfl|rfl|rfl|rfl<;>simp
def row2(p:Int×Int):List Int:=[p.1,p.2]
def row3(p:T3):List Int:=[p.1,p.2.1,p.2.2+1000000000000000]
def row5(p:T5):List Int:=[p.1,p.2.1,p.2.2.1,p.2.2.2.1,p.2.2.2.2]
def row8(p:T8):List Int:=[p.1,p.2.1,p.2.2.1,p.2.2.2.1,p.2.2.2.2.1,p.2.2.2.2.2.1,p.2.2.2.2.2.2.1,p.2.2.2.2.2.2.2]
def nums(b:Bk):List Int:=[(b.ac.length:Int)]++b.ac.flatMap row2++[(b.ic.length:Int)]++b.ic.flatMap row2++[(b.bs.length:Int)]++b.bs.flatMap row3++[(b.ls.length:Int)]++b.ls.flatMap row5++[(b.ts.length:Int)]++b.ts.flatMap row8++[b.lot]
theorem flat_more{α:Type}{ps:List α}{f:α→List Int}{k:Nat}(d:α)(h:k<ps.length):(ps.take (k+1)).flatMap f=(ps.take k).flatMap f++f (ps.getD k d):=by
 rw[List.take_succ_eq_append_getElem h,List.flatMap_append]
 simp[List.getD,h]
abbrev oN00:Oper:={dst:=some 22,op:=Go.Op.move (Go.Operand.tmp 3),type:=96,pos:= "l13_save.go:9",after:= #[],guard:=none}
abbrev oN01:Oper:={dst:=some 23,op:=Go.Op.fieldAddr 40 (Go.Operand.tmp 1) 0,type:=0,pos:= "l13_save.go:9",after:= #[],guard:=none}
abbrev oN02:Oper:={dst:=some 24,op:=Go.Op.load 34 (Go.Operand.tmp 23),type:=34,pos:= "l13_save.go:9",after:= #[{on:=1,ground:=Go.Ground.data}],guard:=none}
abbrev oN03:Oper:={dst:=some 25,op:=Go.Op.move (Go.Operand.tmp 4),type:=3,pos:= "l13_save.go:9",after:= #[],guard:=none}
abbrev oN04:Oper:={dst:=some 26,op:=Go.Op.indexAddr 34 (Go.Operand.tmp 24) (Go.Operand.tmp 25),type:=0,pos:= "l13_save.go:9",after:= #[{on:=2,ground:=Go.Ground.data},{on:=3,ground:=Go.Ground.data}],guard:=none}
abbrev oN05:Oper:={dst:=some 27,op:=Go.Op.fieldAddr 143 (Go.Operand.tmp 26) 0,type:=0,pos:= "l13_save.go:9",after:= #[{on:=4,ground:=Go.Ground.data}],guard:=none}
abbrev oN06:Oper:={dst:=some 28,op:=Go.Op.load 3 (Go.Operand.tmp 27),type:=3,pos:= "l13_save.go:9",after:= #[{on:=5,ground:=Go.Ground.data}],guard:=none}
abbrev oN07:Oper:={dst:=some 29,op:=Go.Op.fieldAddr 40 (Go.Operand.tmp 1) 0,type:=0,pos:= "l13_save.go:9",after:= #[],guard:=none}
abbrev oN08:Oper:={dst:=some 30,op:=Go.Op.load 34 (Go.Operand.tmp 29),type:=34,pos:= "l13_save.go:9",after:= #[{on:=7,ground:=Go.Ground.data}],guard:=none}
abbrev oN09:Oper:={dst:=some 31,op:=Go.Op.move (Go.Operand.tmp 4),type:=3,pos:= "l13_save.go:9",after:= #[],guard:=none}
abbrev oN010:Oper:={dst:=some 32,op:=Go.Op.indexAddr 34 (Go.Operand.tmp 30) (Go.Operand.tmp 31),type:=0,pos:= "l13_save.go:9",after:= #[{on:=8,ground:=Go.Ground.data},{on:=9,ground:=Go.Ground.data}],guard:=none}
abbrev oN011:Oper:={dst:=some 33,op:=Go.Op.fieldAddr 143 (Go.Operand.tmp 32) 1,type:=0,pos:= "l13_save.go:9",after:= #[{on:=10,ground:=Go.Ground.data}],guard:=none}
abbrev oN012:Oper:={dst:=some 34,op:=Go.Op.load 3 (Go.Operand.tmp 33),type:=3,pos:= "l13_save.go:9",after:= #[{on:=11,ground:=Go.Ground.data}],guard:=none}
abbrev oN013:Oper:={dst:=some 35,op:=Go.Op.buildSlice 96 2 #[(0,Go.Operand.tmp 28),(1,Go.Operand.tmp 34)],type:=96,pos:= "l13_save.go:9",after:= #[{on:=6,ground:=Go.Ground.data},{on:=12,ground:=Go.Ground.data}],guard:=none}
abbrev oN014:Oper:={dst:=some 36,op:=Go.Op.call {callee:=Go.Callee.builtin Go.Builtin.append,args:= #[Go.Operand.tmp 22,Go.Operand.tmp 35],argTypes:= #[96,96]},type:=96,pos:= "l13_save.go:9",after:= #[{on:=0,ground:=Go.Ground.data},{on:=13,ground:=Go.Ground.data}],guard:=none}
abbrev oN015:Oper:={dst:=some 3,op:=Go.Op.assign (Go.Operand.tmp 36),type:=96,pos:= "l13_save.go:9",after:= #[{on:=14,ground:=Go.Ground.data},{on:=14,ground:=Go.Ground.chain},{on:=0,ground:=Go.Ground.phase},{on:=1,ground:=Go.Ground.phase},{on:=2,ground:=Go.Ground.phase},{on:=3,ground:=Go.Ground.phase},{on:=4,ground:=Go.Ground.phase},{on:=5,ground:=Go.Ground.phase},{on:=6,ground:=Go.Ground.phase},{on:=7,ground:=Go.Ground.phase},{on:=8,ground:=Go.Ground.phase},{on:=9,ground:=Go.Ground.phase},{on:=10,ground:=Go.Ground.phase},{on:=11,ground:=Go.Ground.phase},{on:=12,ground:=Go.Ground.phase},{on:=13,ground:=Go.Ground.phase},{on:=14,ground:=Go.Ground.phase}],guard:=none}
abbrev oN10:Oper:={dst:=some 50,op:=Go.Op.move (Go.Operand.tmp 3),type:=96,pos:= "l13_save.go:13",after:= #[],guard:=none}
abbrev oN11:Oper:={dst:=some 51,op:=Go.Op.fieldAddr 40 (Go.Operand.tmp 1) 1,type:=0,pos:= "l13_save.go:13",after:= #[],guard:=none}
abbrev oN12:Oper:={dst:=some 52,op:=Go.Op.load 35 (Go.Operand.tmp 51),type:=35,pos:= "l13_save.go:13",after:= #[{on:=1,ground:=Go.Ground.data}],guard:=none}
abbrev oN13:Oper:={dst:=some 53,op:=Go.Op.move (Go.Operand.tmp 5),type:=3,pos:= "l13_save.go:13",after:= #[],guard:=none}
abbrev oN14:Oper:={dst:=some 54,op:=Go.Op.indexAddr 35 (Go.Operand.tmp 52) (Go.Operand.tmp 53),type:=0,pos:= "l13_save.go:13",after:= #[{on:=2,ground:=Go.Ground.data},{on:=3,ground:=Go.Ground.data}],guard:=none}
abbrev oN15:Oper:={dst:=some 55,op:=Go.Op.fieldAddr 144 (Go.Operand.tmp 54) 0,type:=0,pos:= "l13_save.go:13",after:= #[{on:=4,ground:=Go.Ground.data}],guard:=none}
abbrev oN16:Oper:={dst:=some 56,op:=Go.Op.load 3 (Go.Operand.tmp 55),type:=3,pos:= "l13_save.go:13",after:= #[{on:=5,ground:=Go.Ground.data}],guard:=none}
abbrev oN17:Oper:={dst:=some 57,op:=Go.Op.fieldAddr 40 (Go.Operand.tmp 1) 1,type:=0,pos:= "l13_save.go:13",after:= #[],guard:=none}
abbrev oN18:Oper:={dst:=some 58,op:=Go.Op.load 35 (Go.Operand.tmp 57),type:=35,pos:= "l13_save.go:13",after:= #[{on:=7,ground:=Go.Ground.data}],guard:=none}
abbrev oN19:Oper:={dst:=some 59,op:=Go.Op.move (Go.Operand.tmp 5),type:=3,pos:= "l13_save.go:13",after:= #[],guard:=none}
abbrev oN110:Oper:={dst:=some 60,op:=Go.Op.indexAddr 35 (Go.Operand.tmp 58) (Go.Operand.tmp 59),type:=0,pos:= "l13_save.go:13",after:= #[{on:=8,ground:=Go.Ground.data},{on:=9,ground:=Go.Ground.data}],guard:=none}
abbrev oN111:Oper:={dst:=some 61,op:=Go.Op.fieldAddr 144 (Go.Operand.tmp 60) 1,type:=0,pos:= "l13_save.go:13",after:= #[{on:=10,ground:=Go.Ground.data}],guard:=none}
abbrev oN112:Oper:={dst:=some 62,op:=Go.Op.load 3 (Go.Operand.tmp 61),type:=3,pos:= "l13_save.go:13",after:= #[{on:=11,ground:=Go.Ground.data}],guard:=none}
abbrev oN113:Oper:={dst:=some 63,op:=Go.Op.buildSlice 96 2 #[(0,Go.Operand.tmp 56),(1,Go.Operand.tmp 62)],type:=96,pos:= "l13_save.go:13",after:= #[{on:=6,ground:=Go.Ground.data},{on:=12,ground:=Go.Ground.data}],guard:=none}
abbrev oN114:Oper:={dst:=some 64,op:=Go.Op.call {callee:=Go.Callee.builtin Go.Builtin.append,args:= #[Go.Operand.tmp 50,Go.Operand.tmp 63],argTypes:= #[96,96]},type:=96,pos:= "l13_save.go:13",after:= #[{on:=0,ground:=Go.Ground.data},{on:=13,ground:=Go.Ground.data}],guard:=none}
abbrev oN115:Oper:={dst:=some 3,op:=Go.Op.assign (Go.Operand.tmp 64),type:=96,pos:= "l13_save.go:13",after:= #[{on:=14,ground:=Go.Ground.data},{on:=14,ground:=Go.Ground.chain},{on:=0,ground:=Go.Ground.phase},{on:=1,ground:=Go.Ground.phase},{on:=2,ground:=Go.Ground.phase},{on:=3,ground:=Go.Ground.phase},{on:=4,ground:=Go.Ground.phase},{on:=5,ground:=Go.Ground.phase},{on:=6,ground:=Go.Ground.phase},{on:=7,ground:=Go.Ground.phase},{on:=8,ground:=Go.Ground.phase},{on:=9,ground:=Go.Ground.phase},{on:=10,ground:=Go.Ground.phase},{on:=11,ground:=Go.Ground.phase},{on:=12,ground:=Go.Ground.phase},{on:=13,ground:=Go.Ground.phase},{on:=14,ground:=Go.Ground.phase}],guard:=none}
abbrev oN20:Oper:={dst:=some 78,op:=Go.Op.move (Go.Operand.tmp 3),type:=96,pos:= "l13_save.go:17",after:= #[],guard:=none}
abbrev oN21:Oper:={dst:=some 79,op:=Go.Op.fieldAddr 40 (Go.Operand.tmp 1) 2,type:=0,pos:= "l13_save.go:17",after:= #[],guard:=none}
abbrev oN22:Oper:={dst:=some 80,op:=Go.Op.load 36 (Go.Operand.tmp 79),type:=36,pos:= "l13_save.go:17",after:= #[{on:=1,ground:=Go.Ground.data}],guard:=none}
abbrev oN23:Oper:={dst:=some 81,op:=Go.Op.move (Go.Operand.tmp 6),type:=3,pos:= "l13_save.go:17",after:= #[],guard:=none}
abbrev oN24:Oper:={dst:=some 82,op:=Go.Op.indexAddr 36 (Go.Operand.tmp 80) (Go.Operand.tmp 81),type:=0,pos:= "l13_save.go:17",after:= #[{on:=2,ground:=Go.Ground.data},{on:=3,ground:=Go.Ground.data}],guard:=none}
abbrev oN25:Oper:={dst:=some 83,op:=Go.Op.fieldAddr 146 (Go.Operand.tmp 82) 0,type:=0,pos:= "l13_save.go:17",after:= #[{on:=4,ground:=Go.Ground.data}],guard:=none}
abbrev oN26:Oper:={dst:=some 84,op:=Go.Op.load 3 (Go.Operand.tmp 83),type:=3,pos:= "l13_save.go:17",after:= #[{on:=5,ground:=Go.Ground.data}],guard:=none}
abbrev oN27:Oper:={dst:=some 85,op:=Go.Op.fieldAddr 40 (Go.Operand.tmp 1) 2,type:=0,pos:= "l13_save.go:17",after:= #[],guard:=none}
abbrev oN28:Oper:={dst:=some 86,op:=Go.Op.load 36 (Go.Operand.tmp 85),type:=36,pos:= "l13_save.go:17",after:= #[{on:=7,ground:=Go.Ground.data}],guard:=none}
abbrev oN29:Oper:={dst:=some 87,op:=Go.Op.move (Go.Operand.tmp 6),type:=3,pos:= "l13_save.go:17",after:= #[],guard:=none}
abbrev oN210:Oper:={dst:=some 88,op:=Go.Op.indexAddr 36 (Go.Operand.tmp 86) (Go.Operand.tmp 87),type:=0,pos:= "l13_save.go:17",after:= #[{on:=8,ground:=Go.Ground.data},{on:=9,ground:=Go.Ground.data}],guard:=none}
abbrev oN211:Oper:={dst:=some 89,op:=Go.Op.fieldAddr 146 (Go.Operand.tmp 88) 1,type:=0,pos:= "l13_save.go:17",after:= #[{on:=10,ground:=Go.Ground.data}],guard:=none}
abbrev oN212:Oper:={dst:=some 90,op:=Go.Op.load 3 (Go.Operand.tmp 89),type:=3,pos:= "l13_save.go:17",after:= #[{on:=11,ground:=Go.Ground.data}],guard:=none}
abbrev oN213:Oper:={dst:=some 91,op:=Go.Op.fieldAddr 40 (Go.Operand.tmp 1) 2,type:=0,pos:= "l13_save.go:17",after:= #[],guard:=none}
abbrev oN214:Oper:={dst:=some 92,op:=Go.Op.load 36 (Go.Operand.tmp 91),type:=36,pos:= "l13_save.go:17",after:= #[{on:=13,ground:=Go.Ground.data}],guard:=none}
abbrev oN215:Oper:={dst:=some 93,op:=Go.Op.move (Go.Operand.tmp 6),type:=3,pos:= "l13_save.go:17",after:= #[],guard:=none}
abbrev oN216:Oper:={dst:=some 94,op:=Go.Op.indexAddr 36 (Go.Operand.tmp 92) (Go.Operand.tmp 93),type:=0,pos:= "l13_save.go:17",after:= #[{on:=14,ground:=Go.Ground.data},{on:=15,ground:=Go.Ground.data}],guard:=none}
abbrev oN217:Oper:={dst:=some 95,op:=Go.Op.fieldAddr 146 (Go.Operand.tmp 94) 2,type:=0,pos:= "l13_save.go:17",after:= #[{on:=16,ground:=Go.Ground.data}],guard:=none}
abbrev oN218:Oper:={dst:=some 96,op:=Go.Op.load 3 (Go.Operand.tmp 95),type:=3,pos:= "l13_save.go:17",after:= #[{on:=17,ground:=Go.Ground.data}],guard:=none}
abbrev oN219:Oper:={dst:=some 97,op:=Go.Op.binOp Go.BinOp.add 3 (Go.Operand.tmp 96) (Go.Operand.const (Go.Value.int Go.IntKind.i64 1000000000000000)) 3,type:=3,pos:= "l13_save.go:17",after:= #[{on:=18,ground:=Go.Ground.data}],guard:=none}
abbrev oN220:Oper:={dst:=some 98,op:=Go.Op.buildSlice 96 3 #[(0,Go.Operand.tmp 84),(1,Go.Operand.tmp 90),(2,Go.Operand.tmp 97)],type:=96,pos:= "l13_save.go:17",after:= #[{on:=6,ground:=Go.Ground.data},{on:=12,ground:=Go.Ground.data},{on:=19,ground:=Go.Ground.data}],guard:=none}
abbrev oN221:Oper:={dst:=some 99,op:=Go.Op.call {callee:=Go.Callee.builtin Go.Builtin.append,args:= #[Go.Operand.tmp 78,Go.Operand.tmp 98],argTypes:= #[96,96]},type:=96,pos:= "l13_save.go:17",after:= #[{on:=0,ground:=Go.Ground.data},{on:=20,ground:=Go.Ground.data}],guard:=none}
abbrev oN222:Oper:={dst:=some 3,op:=Go.Op.assign (Go.Operand.tmp 99),type:=96,pos:= "l13_save.go:17",after:= #[{on:=21,ground:=Go.Ground.data},{on:=21,ground:=Go.Ground.chain},{on:=0,ground:=Go.Ground.phase},{on:=1,ground:=Go.Ground.phase},{on:=2,ground:=Go.Ground.phase},{on:=3,ground:=Go.Ground.phase},{on:=4,ground:=Go.Ground.phase},{on:=5,ground:=Go.Ground.phase},{on:=6,ground:=Go.Ground.phase},{on:=7,ground:=Go.Ground.phase},{on:=8,ground:=Go.Ground.phase},{on:=9,ground:=Go.Ground.phase},{on:=10,ground:=Go.Ground.phase},{on:=11,ground:=Go.Ground.phase},{on:=12,ground:=Go.Ground.phase},{on:=13,ground:=Go.Ground.phase},{on:=14,ground:=Go.Ground.phase},{on:=15,ground:=Go.Ground.phase},{on:=16,ground:=Go.Ground.phase},{on:=17,ground:=Go.Ground.phase},{on:=18,ground:=Go.Ground.phase},{on:=19,ground:=Go.Ground.phase},{on:=20,ground:=Go.Ground.phase},{on:=21,ground:=Go.Ground.phase}],guard:=none}
theorem sNums(w:World)(x:Bx)(h:Rd w x)(ha:∀i,i<x.b.bs.length→-1000000000000000≤(el3 x.b.bs i).2.2∧(el3 x.b.bs i).2.2≤1000000000000000):
  Calls Tryz.prog 58 #[.agg #[.slice (some ⟨x.ga,0,none⟩) x.b.ac.length x.ca,.slice (some ⟨x.gi,0,none⟩) x.b.ic.length x.ci,.slice (some ⟨x.gb,0,none⟩) x.b.bs.length x.cb,.slice (some ⟨x.gl,0,none⟩) x.b.ls.length x.cl,.slice (some ⟨x.gt,0,none⟩) x.b.ts.length x.ct,.int .i64 x.b.lot]] w fun e w'=>∃g c,e= .returned (.slice (some ⟨g,0,none⟩) (nums x.b).length c)∧Ints.Own w' w.heap.size g (nums x.b).length c (nums x.b)∧Below w.heap.size w w':=by
 have S0:=zh (St.start h 40)
 have XB:=zh (show((x.ga<w.heap.size∧x.gi<w.heap.size)∧x.gb<w.heap.size) from⟨⟨h.la,h.li⟩,h.lb⟩)
 have na:=h.na
 have ni:=h.ni
 have nb:=h.nb
 have nl:=h.nl
 have nt:=h.nt
 have HA:=zh ha
 clear h ha
 go_enter Tryz.func58,Tryz.ntmps58
 have s0:=(zu S0).c.c0
 go_wp2
 clear s0
 generalize hW:(w.alloc (.cells #[.slice (some ⟨x.ga,0,none⟩) x.b.ac.length x.ca,.slice (some ⟨x.gi,0,none⟩) x.b.ic.length x.ci,.slice (some ⟨x.gb,0,none⟩) x.b.bs.length x.cb,.slice (some ⟨x.gl,0,none⟩) x.b.ls.length x.cl,.slice (some ⟨x.gt,0,none⟩) x.b.ts.length x.ct,.int .i64 x.b.lot] 40))=W0 at *
 have ws:W0.heap.size=w.heap.size+1:=by rw[←hW];simp
 have O0:=zh (show Ints.Own (W0.alloc (.cells #[.int .i64 x.b.ac.length] 3)) W0.heap.size (w.heap.size+1) 1 1 [(x.b.ac.length:Int)] from by rw[←ws];exact World.ownsRow_lit W0 #[.int .i64 x.b.ac.length] 1 (Nat.le_refl _) (by decide) rfl)
 have B0:=zh (one_more W0 (.cells #[.int .i64 x.b.ac.length] 3))
 clear hW
 generalize hA:[(x.b.ac.length:Int)]=A0 at *
 have HA0:=zh hA
 clear hA
 go_loopw [3,4] (fun l i wr=>∃(k g c n:Nat),i= .int .i64 k∧k≤x.b.ac.length∧l= .slice (some ⟨g,0,none⟩) n c∧n≤1+2*k∧Hid (Ints.Own wr W0.heap.size g n c (A0++(x.b.ac.take k).flatMap row2))∧Hid (Below W0.heap.size W0 wr)) (fun _ i _=>x.b.ac.length-(intOf i).toNat)
 case atStart=>exact⟨0,_,_,_,rfl,by omega,rfl,by omega,zh (by simpa using zu O0),B0⟩
 case round=>
  clear O0 B0
  obtain⟨k,g,c,n,rfl,hk,rfl,nk,HO,HB⟩:=hrel
  have bs:=(zu HB).size
  have og:=(zu HO).lt
  have S1:=zh ((zu S0).step (zu HB))
  have cf:=(zu S1).c.c0
  by_cases t:k<x.b.ac.length
  ·have kt:(k:Int)<x.b.ac.length:=by omega
   have d:=(zu S1).r.ra k t
   have lg:=(zu S1).r.la
   have NX:=zh (flat_more (f:=row2) ((0,0):Int×Int) t)
   change Hid (_=_++row2 (Chart.el x.b.ac k)) at NX
   change wr.cell? ⟨x.ga,k*2,none⟩=some (.int .i64 (Chart.el x.b.ac k).1)∧wr.cell? ⟨x.ga,k*2+1,none⟩=some (.int .i64 (Chart.el x.b.ac k).2) at d
   generalize Chart.el x.b.ac k=p at *
   obtain⟨p0,p1⟩:=p
   obtain⟨d0,d1⟩:=d
   have K0:wr.cell? ⟨w.heap.size,0,none⟩=some (.slice (some ⟨x.ga,0,none⟩) x.b.ac.length x.ca)∧wr.cell? ⟨x.ga,k*2,none⟩=some (.int .i64 p0)∧wr.cell? ⟨x.ga,k*2+1,none⟩=some (.int .i64 p1):=⟨cf,d0,d1⟩
   go_wp2_with fail
   refine wp_region_held_drew (S:=(fun w'=>w'.cell? ⟨w.heap.size,0,none⟩=some (.slice (some ⟨x.ga,0,none⟩) x.b.ac.length x.ca)∧w'.cell? ⟨x.ga,k*2,none⟩=some (.int .i64 p0)∧w'.cell? ⟨x.ga,k*2+1,none⟩=some (.int .i64 p1))) (by kernel_rfl) K0 (fun hHeld=>?_)
   refine tk 0 oN00 (.slice (some ⟨g,0,none⟩) n c) rfl (by kernel_rfl) (fun _ _ _ h=>h) (by rfl) (fun w hSw=>?_) hHeld ?_
   ·(try dsimp only at hSw)
    unfold oN00
    go_simp
   try simp only[oN00,Act.put,zA,zB,zC]
   refine tk 1 oN01 (.pointer (some ⟨w.heap.size,0,none⟩)) rfl (by kernel_rfl) (fun _ _ _ h=>h) (by rfl) (fun w hSw=>?_) hHeld ?_
   ·(try dsimp only at hSw)
    unfold oN01
    go_simp
   try simp only[oN01,Act.put,zA,zB,zC]
   refine tk 2 oN02 (.slice (some ⟨x.ga,0,none⟩) x.b.ac.length x.ca) rfl (by kernel_rfl) (fun _ _ _ h=>h) (by rfl) (fun w hSw=>?_) hHeld ?_
   ·(try dsimp only at hSw)
    unfold oN02
    go_simp
   try simp only[oN02,Act.put,zA,zB,zC]
   refine tk 3 oN03 (.int .i64 k) rfl (by kernel_rfl) (fun _ _ _ h=>h) (by rfl) (fun w hSw=>?_) hHeld ?_
   ·(try dsimp only at hSw)
    unfold oN03
    go_simp
   try simp only[oN03,Act.put,zA,zB,zC]
   refine tk 4 oN04 (.pointer (some ⟨x.ga,k*2,none⟩)) rfl (by kernel_rfl) (fun _ _ _ h=>h) (by rfl) (fun w hSw=>?_) hHeld ?_
   ·(try dsimp only at hSw)
    unfold oN04
    go_simp
   try simp only[oN04,Act.put,zA,zB,zC]
   refine tk 5 oN05 (.pointer (some ⟨x.ga,k*2,none⟩)) rfl (by kernel_rfl) (fun _ _ _ h=>h) (by rfl) (fun w hSw=>?_) hHeld ?_
   ·(try dsimp only at hSw)
    unfold oN05
    go_simp
   try simp only[oN05,Act.put,zA,zB,zC]
   refine tk 6 oN06 (.int .i64 p0) rfl (by kernel_rfl) (fun _ _ _ h=>h) (by rfl) (fun w hSw=>?_) hHeld ?_
   ·(try dsimp only at hSw)
    unfold oN06
    go_simp
   try simp only[oN06,Act.put,zA,zB,zC]
   refine tk 7 oN07 (.pointer (some ⟨w.heap.size,0,none⟩)) rfl (by kernel_rfl) (fun _ _ _ h=>h) (by rfl) (fun w hSw=>?_) hHeld ?_
   ·(try dsimp only at hSw)
    unfold oN07
    go_simp
   try simp only[oN07,Act.put,zA,zB,zC]
   refine tk 8 oN08 (.slice (some ⟨x.ga,0,none⟩) x.b.ac.length x.ca) rfl (by kernel_rfl) (fun _ _ _ h=>h) (by rfl) (fun w hSw=>?_) hHeld ?_
   ·(try dsimp only at hSw)
    unfold oN08
    go_simp
   try simp only[oN08,Act.put,zA,zB,zC]
   refine tk 9 oN09 (.int .i64 k) rfl (by kernel_rfl) (fun _ _ _ h=>h) (by rfl) (fun w hSw=>?_) hHeld ?_
   ·(try dsimp only at hSw)
    unfold oN09
    go_simp
   try simp only[oN09,Act.put,zA,zB,zC]
   refine tk 10 oN010 (.pointer (some ⟨x.ga,k*2,none⟩)) rfl (by kernel_rfl) (fun _ _ _ h=>h) (by rfl) (fun w hSw=>?_) hHeld ?_
   ·(try dsimp only at hSw)
    unfold oN010
    go_simp
   try simp only[oN010,Act.put,zA,zB,zC]
   refine tk 11 oN011 (.pointer (some ⟨x.ga,k*2+1,none⟩)) rfl (by kernel_rfl) (fun _ _ _ h=>h) (by rfl) (fun w hSw=>?_) hHeld ?_
   ·(try dsimp only at hSw)
    unfold oN011
    go_simp
   try simp only[oN011,Act.put,zA,zB,zC]
   refine tk 12 oN012 (.int .i64 p1) rfl (by kernel_rfl) (fun _ _ _ h=>h) (by rfl) (fun w hSw=>?_) hHeld ?_
   ·(try dsimp only at hSw)
    unfold oN012
    go_simp
   try simp only[oN012,Act.put,zA,zB,zC]
   have KB:(wr.drew.alloc (.cells #[.int .i64 p0,.int .i64 p1] 3)).cell? ⟨w.heap.size,0,none⟩=some (.slice (some ⟨x.ga,0,none⟩) x.b.ac.length x.ca)∧(wr.drew.alloc (.cells #[.int .i64 p0,.int .i64 p1] 3)).cell? ⟨x.ga,k*2,none⟩=some (.int .i64 p0)∧(wr.drew.alloc (.cells #[.int .i64 p0,.int .i64 p1] 3)).cell? ⟨x.ga,k*2+1,none⟩=some (.int .i64 p1):=⟨((one_more wr.drew (.cells #[.int .i64 p0,.int .i64 p1] 3)).cell (p:=⟨w.heap.size,0,none⟩) (show w.heap.size<wr.heap.size from(zu S1).s)).trans cf,((one_more wr.drew (.cells #[.int .i64 p0,.int .i64 p1] 3)).cell (p:=⟨x.ga,k*2,none⟩) (show x.ga<wr.heap.size from lg)).trans d0,((one_more wr.drew (.cells #[.int .i64 p0,.int .i64 p1] 3)).cell (p:=⟨x.ga,k*2+1,none⟩) (show x.ga<wr.heap.size from lg)).trans d1⟩
   refine wpAnyH_ready (rs:=[13]) (by kernel_rfl) (by simp) ?_
   refine AllReadyH.cons (o:=oN013) rfl (fun K hK=>?_) AllReadyH.nil
   unfold oN013
   go_simp
   refine hK.out _ _ KB (fun hHeld=>?_)
   clear hK K
   try simp only[oN013,Act.put,zA,zB,zC]
   refine wpAnyH_ready (rs:=[14]) (by kernel_rfl) (by simp) ?_
   refine AllReadyH.cons (o:=oN014) rfl (fun K hK=>?_) AllReadyH.nil
   refine step_catI _ (by rfl) _ _ (by rfl) W0.heap.size g n c 2 _ [p0,p1] wr.drew.heap.size 2 (by rfl) (by rfl) (by exact own_allocI (zu HO) _) (by rfl) (by exact lit2 wr.drew p0 p1) (by omega) (Nat.le_trans (show W0.heap.size≤wr.drew.heap.size from bs) (by simp)) ?_
   intro g9 c9 u9 o9 gr9 loc9
   have K9:u9.cell? ⟨w.heap.size,0,none⟩=some (.slice (some ⟨x.ga,0,none⟩) x.b.ac.length x.ca)∧u9.cell? ⟨x.ga,k*2,none⟩=some (.int .i64 p0)∧u9.cell? ⟨x.ga,k*2+1,none⟩=some (.int .i64 p1):=⟨gr9.cell KB.1 (fun e=>by injection e with e;simp at e;have:=(zu S0).s;omega),gr9.cell KB.2.1 (fun e=>by injection e with e;simp at e;have:=(zu XB).1.1;omega),gr9.cell KB.2.2 (fun e=>by injection e with e;simp at e;have:=(zu XB).1.1;omega)⟩
   have O9:=zh o9
   have B9:=zh (((zu HB).drew.alloc (show W0.heap.size≤wr.heap.size from bs) (.cells #[.int .i64 p0,.int .i64 p1] 3)).grown gr9 (Nat.le_trans (show W0.heap.size≤wr.drew.heap.size from bs) (by simp)) (fun j hj=>by cases hj;exact og.1))
   clear o9 gr9 loc9
   refine hK.out _ _ K9 (fun hHeld=>?_)
   clear hK K
   try simp only[oN014,Act.put,zA,zB,zC]
   refine tk 15 oN015 (.slice (some ⟨g9,0,none⟩) (n+2) c9) rfl (by kernel_rfl) (fun _ _ _ h=>h) (by rfl) (fun w hSw=>?_) hHeld ?_
   ·(try dsimp only at hSw)
    unfold oN015
    go_simp
   try simp only[oN015,Act.put,zA,zB,zC]
   refine wpAnyH_done (by kernel_rfl) ?_ _
   go_wp2
   go_roundw
   case rel=>exact⟨k+1,g9,c9,n+2,by go_num,by omega,rfl,by omega,zh (by rw[zu NX];first|exact zu O9|(rw[ws];exact zu O9)|(rw[←List.append_assoc];exact zu O9)|(rw[←List.append_assoc,ws];exact zu O9)),B9⟩
   case measure=>simp[intOf];omega
  ·have e:k=x.b.ac.length:=by omega
   subst e
   have O:=zu HO
   rw[List.take_length] at O
   have HO:=zh O
   clear O hk t
   have cg:=(zu S1).c.c1
   go_wp2_with (first|(at_builtin;refine wp_catI _ rfl _ _ rfl W0.heap.size g n c 1 _ [(x.b.ic.length:Int)] _ 1 rfl rfl (own_allocI (zu HO) _) rfl (lit1 _ _) (by omega) (by simp;omega) ?_)|go_in)
   intro g9 c9 u9 o9 gr9 loc9
   have O1:=zh (show Ints.Own u9 W0.heap.size g9 (n+1) c9 (A0++x.b.ac.flatMap row2++[(x.b.ic.length:Int)]) from by first|exact o9|(rw[List.append_assoc];exact o9)|(rw[ws];exact o9)|(rw[ws,List.append_assoc];exact o9))
   have B1:=zh (((zu HB).alloc bs (.cells #[.int .i64 (x.b.ic.length:Int)] 3)).grown gr9 (by simp;omega) (fun j hj=>by cases hj;exact og.1))
   have n9:n+1≤1+2*1048576+1:=by omega
   clear o9 gr9 loc9 HO HB S1 cf cg bs og
   generalize hA:A0++x.b.ac.flatMap row2++[(x.b.ic.length:Int)]=A1 at *
   have HA1:=zh hA
   clear hA
   go_wp2
   go_loopw [3,5] (fun l i wr=>∃(k g c n:Nat),i= .int .i64 k∧k≤x.b.ic.length∧l= .slice (some ⟨g,0,none⟩) n c∧n≤1+2*1048576+1+2*k∧Hid (Ints.Own wr W0.heap.size g n c (A1++(x.b.ic.take k).flatMap row2))∧Hid (Below W0.heap.size W0 wr)) (fun _ i _=>x.b.ic.length-(intOf i).toNat)
   case atStart=>exact⟨0,_,_,_,rfl,by omega,rfl,by omega,zh (by simpa using zu O1),B1⟩
   case round=>
    clear O1 B1
    obtain⟨k,g,c,n,rfl,hk,rfl,nk,HO,HB⟩:=hrel
    have bs:=(zu HB).size
    have og:=(zu HO).lt
    have S1:=zh ((zu S0).step (zu HB))
    have cf:=(zu S1).c.c1
    by_cases t:k<x.b.ic.length
    ·have kt:(k:Int)<x.b.ic.length:=by omega
     have d:=(zu S1).r.ri k t
     have lg:=(zu S1).r.li
     have NX:=zh (flat_more (f:=row2) ((0,0):Int×Int) t)
     change Hid (_=_++row2 (Chart.el x.b.ic k)) at NX
     change wr.cell? ⟨x.gi,k*2,none⟩=some (.int .i64 (Chart.el x.b.ic k).1)∧wr.cell? ⟨x.gi,k*2+1,none⟩=some (.int .i64 (Chart.el x.b.ic k).2) at d
     generalize Chart.el x.b.ic k=p at *
     obtain⟨p0,p1⟩:=p
     obtain⟨d0,d1⟩:=d
     have K0:wr.cell? ⟨w.heap.size,1,none⟩=some (.slice (some ⟨x.gi,0,none⟩) x.b.ic.length x.ci)∧wr.cell? ⟨x.gi,k*2,none⟩=some (.int .i64 p0)∧wr.cell? ⟨x.gi,k*2+1,none⟩=some (.int .i64 p1):=⟨cf,d0,d1⟩
     go_wp2_with fail
     refine wp_region_held_drew (S:=(fun w'=>w'.cell? ⟨w.heap.size,1,none⟩=some (.slice (some ⟨x.gi,0,none⟩) x.b.ic.length x.ci)∧w'.cell? ⟨x.gi,k*2,none⟩=some (.int .i64 p0)∧w'.cell? ⟨x.gi,k*2+1,none⟩=some (.int .i64 p1))) (by kernel_rfl) K0 (fun hHeld=>?_)
     refine tk 0 oN10 (.slice (some ⟨g,0,none⟩) n c) rfl (by kernel_rfl) (fun _ _ _ h=>h) (by rfl) (fun w hSw=>?_) hHeld ?_
     ·(try dsimp only at hSw)
      unfold oN10
      go_simp
     try simp only[oN10,Act.put,zA,zB,zC]
     refine tk 1 oN11 (.pointer (some ⟨w.heap.size,1,none⟩)) rfl (by kernel_rfl) (fun _ _ _ h=>h) (by rfl) (fun w hSw=>?_) hHeld ?_
     ·(try dsimp only at hSw)
      unfold oN11
      go_simp
     try simp only[oN11,Act.put,zA,zB,zC]
     refine tk 2 oN12 (.slice (some ⟨x.gi,0,none⟩) x.b.ic.length x.ci) rfl (by kernel_rfl) (fun _ _ _ h=>h) (by rfl) (fun w hSw=>?_) hHeld ?_
     ·(try dsimp only at hSw)
      unfold oN12
      go_simp
     try simp only[oN12,Act.put,zA,zB,zC]
     refine tk 3 oN13 (.int .i64 k) rfl (by kernel_rfl) (fun _ _ _ h=>h) (by rfl) (fun w hSw=>?_) hHeld ?_
     ·(try dsimp only at hSw)
      unfold oN13
      go_simp
     try simp only[oN13,Act.put,zA,zB,zC]
     refine tk 4 oN14 (.pointer (some ⟨x.gi,k*2,none⟩)) rfl (by kernel_rfl) (fun _ _ _ h=>h) (by rfl) (fun w hSw=>?_) hHeld ?_
     ·(try dsimp only at hSw)
      unfold oN14
      go_simp
     try simp only[oN14,Act.put,zA,zB,zC]
     refine tk 5 oN15 (.pointer (some ⟨x.gi,k*2,none⟩)) rfl (by kernel_rfl) (fun _ _ _ h=>h) (by rfl) (fun w hSw=>?_) hHeld ?_
     ·(try dsimp only at hSw)
      unfold oN15
      go_simp
     try simp only[oN15,Act.put,zA,zB,zC]
     refine tk 6 oN16 (.int .i64 p0) rfl (by kernel_rfl) (fun _ _ _ h=>h) (by rfl) (fun w hSw=>?_) hHeld ?_
     ·(try dsimp only at hSw)
      unfold oN16
      go_simp
     try simp only[oN16,Act.put,zA,zB,zC]
     refine tk 7 oN17 (.pointer (some ⟨w.heap.size,1,none⟩)) rfl (by kernel_rfl) (fun _ _ _ h=>h) (by rfl) (fun w hSw=>?_) hHeld ?_
     ·(try dsimp only at hSw)
      unfold oN17
      go_simp
     try simp only[oN17,Act.put,zA,zB,zC]
     refine tk 8 oN18 (.slice (some ⟨x.gi,0,none⟩) x.b.ic.length x.ci) rfl (by kernel_rfl) (fun _ _ _ h=>h) (by rfl) (fun w hSw=>?_) hHeld ?_
     ·(try dsimp only at hSw)
      unfold oN18
      go_simp
     try simp only[oN18,Act.put,zA,zB,zC]
     refine tk 9 oN19 (.int .i64 k) rfl (by kernel_rfl) (fun _ _ _ h=>h) (by rfl) (fun w hSw=>?_) hHeld ?_
     ·(try dsimp only at hSw)
      unfold oN19
      go_simp
     try simp only[oN19,Act.put,zA,zB,zC]
     refine tk 10 oN110 (.pointer (some ⟨x.gi,k*2,none⟩)) rfl (by kernel_rfl) (fun _ _ _ h=>h) (by rfl) (fun w hSw=>?_) hHeld ?_
     ·(try dsimp only at hSw)
      unfold oN110
      go_simp
     try simp only[oN110,Act.put,zA,zB,zC]
     refine tk 11 oN111 (.pointer (some ⟨x.gi,k*2+1,none⟩)) rfl (by kernel_rfl) (fun _ _ _ h=>h) (by rfl) (fun w hSw=>?_) hHeld ?_
     ·(try dsimp only at hSw)
      unfold oN111
      go_simp
     try simp only[oN111,Act.put,zA,zB,zC]
     refine tk 12 oN112 (.int .i64 p1) rfl (by kernel_rfl) (fun _ _ _ h=>h) (by rfl) (fun w hSw=>?_) hHeld ?_
     ·(try dsimp only at hSw)
      unfold oN112
      go_simp
     try simp only[oN112,Act.put,zA,zB,zC]
     have KB:(wr.drew.alloc (.cells #[.int .i64 p0,.int .i64 p1] 3)).cell? ⟨w.heap.size,1,none⟩=some (.slice (some ⟨x.gi,0,none⟩) x.b.ic.length x.ci)∧(wr.drew.alloc (.cells #[.int .i64 p0,.int .i64 p1] 3)).cell? ⟨x.gi,k*2,none⟩=some (.int .i64 p0)∧(wr.drew.alloc (.cells #[.int .i64 p0,.int .i64 p1] 3)).cell? ⟨x.gi,k*2+1,none⟩=some (.int .i64 p1):=⟨((one_more wr.drew (.cells #[.int .i64 p0,.int .i64 p1] 3)).cell (p:=⟨w.heap.size,1,none⟩) (show w.heap.size<wr.heap.size from(zu S1).s)).trans cf,((one_more wr.drew (.cells #[.int .i64 p0,.int .i64 p1] 3)).cell (p:=⟨x.gi,k*2,none⟩) (show x.gi<wr.heap.size from lg)).trans d0,((one_more wr.drew (.cells #[.int .i64 p0,.int .i64 p1] 3)).cell (p:=⟨x.gi,k*2+1,none⟩) (show x.gi<wr.heap.size from lg)).trans d1⟩
     refine wpAnyH_ready (rs:=[13]) (by kernel_rfl) (by simp) ?_
     refine AllReadyH.cons (o:=oN113) rfl (fun K hK=>?_) AllReadyH.nil
     unfold oN113
     go_simp
     refine hK.out _ _ KB (fun hHeld=>?_)
     clear hK K
     try simp only[oN113,Act.put,zA,zB,zC]
     refine wpAnyH_ready (rs:=[14]) (by kernel_rfl) (by simp) ?_
     refine AllReadyH.cons (o:=oN114) rfl (fun K hK=>?_) AllReadyH.nil
     refine step_catI _ (by rfl) _ _ (by rfl) W0.heap.size g n c 2 _ [p0,p1] wr.drew.heap.size 2 (by rfl) (by rfl) (by exact own_allocI (zu HO) _) (by rfl) (by exact lit2 wr.drew p0 p1) (by omega) (Nat.le_trans (show W0.heap.size≤wr.drew.heap.size from bs) (by simp)) ?_
     intro g9 c9 u9 o9 gr9 loc9
     have K9:u9.cell? ⟨w.heap.size,1,none⟩=some (.slice (some ⟨x.gi,0,none⟩) x.b.ic.length x.ci)∧u9.cell? ⟨x.gi,k*2,none⟩=some (.int .i64 p0)∧u9.cell? ⟨x.gi,k*2+1,none⟩=some (.int .i64 p1):=⟨gr9.cell KB.1 (fun e=>by injection e with e;simp at e;have:=(zu S0).s;omega),gr9.cell KB.2.1 (fun e=>by injection e with e;simp at e;have:=(zu XB).1.2;omega),gr9.cell KB.2.2 (fun e=>by injection e with e;simp at e;have:=(zu XB).1.2;omega)⟩
     have O9:=zh o9
     have B9:=zh (((zu HB).drew.alloc (show W0.heap.size≤wr.heap.size from bs) (.cells #[.int .i64 p0,.int .i64 p1] 3)).grown gr9 (Nat.le_trans (show W0.heap.size≤wr.drew.heap.size from bs) (by simp)) (fun j hj=>by cases hj;exact og.1))
     clear o9 gr9 loc9
     refine hK.out _ _ K9 (fun hHeld=>?_)
     clear hK K
     try simp only[oN114,Act.put,zA,zB,zC]
     refine tk 15 oN115 (.slice (some ⟨g9,0,none⟩) (n+2) c9) rfl (by kernel_rfl) (fun _ _ _ h=>h) (by rfl) (fun w hSw=>?_) hHeld ?_
     ·(try dsimp only at hSw)
      unfold oN115
      go_simp
     try simp only[oN115,Act.put,zA,zB,zC]
     refine wpAnyH_done (by kernel_rfl) ?_ _
     go_wp2
     go_roundw
     case rel=>exact⟨k+1,g9,c9,n+2,by go_num,by omega,rfl,by omega,zh (by rw[zu NX];first|exact zu O9|(rw[ws];exact zu O9)|(rw[←List.append_assoc];exact zu O9)|(rw[←List.append_assoc,ws];exact zu O9)),B9⟩
     case measure=>simp[intOf];omega
    ·have e:k=x.b.ic.length:=by omega
     subst e
     have O:=zu HO
     rw[List.take_length] at O
     have HO:=zh O
     clear O hk t
     have cg:=(zu S1).c.c2
     go_wp2_with (first|(at_builtin;refine wp_catI _ rfl _ _ rfl W0.heap.size g n c 1 _ [(x.b.bs.length:Int)] _ 1 rfl rfl (own_allocI (zu HO) _) rfl (lit1 _ _) (by omega) (by simp;omega) ?_)|go_in)
     intro g9 c9 u9 o9 gr9 loc9
     have O2:=zh (show Ints.Own u9 W0.heap.size g9 (n+1) c9 (A1++x.b.ic.flatMap row2++[(x.b.bs.length:Int)]) from by first|exact o9|(rw[List.append_assoc];exact o9)|(rw[ws];exact o9)|(rw[ws,List.append_assoc];exact o9))
     have B2:=zh (((zu HB).alloc bs (.cells #[.int .i64 (x.b.bs.length:Int)] 3)).grown gr9 (by simp;omega) (fun j hj=>by cases hj;exact og.1))
     have n9:n+1≤1+2*1048576+1+2*1048576+1:=by omega
     clear o9 gr9 loc9 HO HB S1 cf cg bs og
     generalize hA:A1++x.b.ic.flatMap row2++[(x.b.bs.length:Int)]=A2 at *
     have HA2:=zh hA
     clear hA
     go_wp2
     go_loopw [3,6] (fun l i wr=>∃(k g c n:Nat),i= .int .i64 k∧k≤x.b.bs.length∧l= .slice (some ⟨g,0,none⟩) n c∧n≤1+2*1048576+1+2*1048576+1+3*k∧Hid (Ints.Own wr W0.heap.size g n c (A2++(x.b.bs.take k).flatMap row3))∧Hid (Below W0.heap.size W0 wr)) (fun _ i _=>x.b.bs.length-(intOf i).toNat)
     case atStart=>exact⟨0,_,_,_,rfl,by omega,rfl,by omega,zh (by simpa using zu O2),B2⟩
     case round=>
      clear O2 B2
      obtain⟨k,g,c,n,rfl,hk,rfl,nk,HO,HB⟩:=hrel
      have bs:=(zu HB).size
      have og:=(zu HO).lt
      have S1:=zh ((zu S0).step (zu HB))
      have cf:=(zu S1).c.c2
      by_cases t:k<x.b.bs.length
      ·have kt:(k:Int)<x.b.bs.length:=by omega
       have d:=(zu S1).r.rb k t
       have lg:=(zu S1).r.lb
       have NX:=zh (flat_more (f:=row3) ((0,0,0):T3) t)
       change Hid (_=_++row3 (el3 x.b.bs k)) at NX
       have am:=(zu HA) k t
       change wr.cell? ⟨x.gb,k*3,none⟩=some (.int .i64 (el3 x.b.bs k).1)∧wr.cell? ⟨x.gb,k*3+1,none⟩=some (.int .i64 (el3 x.b.bs k).2.1)∧wr.cell? ⟨x.gb,k*3+2,none⟩=some (.int .i64 (el3 x.b.bs k).2.2) at d
       generalize el3 x.b.bs k=p at *
       obtain⟨p0,p1,p2⟩:=p
       obtain⟨d0,d1,d2⟩:=d
       have am1:wrap64 (p2+1000000000000000)=p2+1000000000000000:=by rw[wrap64];simp only at am;omega
       have am2:IntKind.i64.wrap (p2+1000000000000000)=p2+1000000000000000:=by rw[IntKind.wrap_i64];simp only at am;omega
       have K0:wr.cell? ⟨w.heap.size,2,none⟩=some (.slice (some ⟨x.gb,0,none⟩) x.b.bs.length x.cb)∧wr.cell? ⟨x.gb,k*3,none⟩=some (.int .i64 p0)∧wr.cell? ⟨x.gb,k*3+1,none⟩=some (.int .i64 p1)∧wr.cell? ⟨x.gb,k*3+2,none⟩=some (.int .i64 p2):=⟨cf,d0,d1,d2⟩
       go_wp2_with fail
       refine wp_region_held_drew (S:=(fun w'=>w'.cell? ⟨w.heap.size,2,none⟩=some (.slice (some ⟨x.gb,0,none⟩) x.b.bs.length x.cb)∧w'.cell? ⟨x.gb,k*3,none⟩=some (.int .i64 p0)∧w'.cell? ⟨x.gb,k*3+1,none⟩=some (.int .i64 p1)∧w'.cell? ⟨x.gb,k*3+2,none⟩=some (.int .i64 p2))) (by kernel_rfl) K0 (fun hHeld=>?_)
       refine tk 0 oN20 (.slice (some ⟨g,0,none⟩) n c) rfl (by kernel_rfl) (fun _ _ _ h=>h) (by rfl) (fun w hSw=>?_) hHeld ?_
       ·(try dsimp only at hSw)
        unfold oN20
        go_simp
       try simp only[oN20,Act.put,zA,zB,zC]
       refine tk 1 oN21 (.pointer (some ⟨w.heap.size,2,none⟩)) rfl (by kernel_rfl) (fun _ _ _ h=>h) (by rfl) (fun w hSw=>?_) hHeld ?_
       ·(try dsimp only at hSw)
        unfold oN21
        go_simp
       try simp only[oN21,Act.put,zA,zB,zC]
       refine tk 2 oN22 (.slice (some ⟨x.gb,0,none⟩) x.b.bs.length x.cb) rfl (by kernel_rfl) (fun _ _ _ h=>h) (by rfl) (fun w hSw=>?_) hHeld ?_
       ·(try dsimp only at hSw)
        unfold oN22
        go_simp
       try simp only[oN22,Act.put,zA,zB,zC]
       refine tk 3 oN23 (.int .i64 k) rfl (by kernel_rfl) (fun _ _ _ h=>h) (by rfl) (fun w hSw=>?_) hHeld ?_
       ·(try dsimp only at hSw)
        unfold oN23
        go_simp
       try simp only[oN23,Act.put,zA,zB,zC]
       refine tk 4 oN24 (.pointer (some ⟨x.gb,k*3,none⟩)) rfl (by kernel_rfl) (fun _ _ _ h=>h) (by rfl) (fun w hSw=>?_) hHeld ?_
       ·(try dsimp only at hSw)
        unfold oN24
        go_simp
       try simp only[oN24,Act.put,zA,zB,zC]
       refine tk 5 oN25 (.pointer (some ⟨x.gb,k*3,none⟩)) rfl (by kernel_rfl) (fun _ _ _ h=>h) (by rfl) (fun w hSw=>?_) hHeld ?_
       ·(try dsimp only at hSw)
        unfold oN25
        go_simp
       try simp only[oN25,Act.put,zA,zB,zC]
       refine tk 6 oN26 (.int .i64 p0) rfl (by kernel_rfl) (fun _ _ _ h=>h) (by rfl) (fun w hSw=>?_) hHeld ?_
       ·(try dsimp only at hSw)
        unfold oN26
        go_simp
       try simp only[oN26,Act.put,zA,zB,zC]
       refine tk 7 oN27 (.pointer (some ⟨w.heap.size,2,none⟩)) rfl (by kernel_rfl) (fun _ _ _ h=>h) (by rfl) (fun w hSw=>?_) hHeld ?_
       ·(try dsimp only at hSw)
        unfold oN27
        go_simp
       try simp only[oN27,Act.put,zA,zB,zC]
       refine tk 8 oN28 (.slice (some ⟨x.gb,0,none⟩) x.b.bs.length x.cb) rfl (by kernel_rfl) (fun _ _ _ h=>h) (by rfl) (fun w hSw=>?_) hHeld ?_
       ·(try dsimp only at hSw)
        unfold oN28
        go_simp
       try simp only[oN28,Act.put,zA,zB,zC]
       refine tk 9 oN29 (.int .i64 k) rfl (by kernel_rfl) (fun _ _ _ h=>h) (by rfl) (fun w hSw=>?_) hHeld ?_
       ·(try dsimp only at hSw)
        unfold oN29
        go_simp
       try simp only[oN29,Act.put,zA,zB,zC]
       refine tk 10 oN210 (.pointer (some ⟨x.gb,k*3,none⟩)) rfl (by kernel_rfl) (fun _ _ _ h=>h) (by rfl) (fun w hSw=>?_) hHeld ?_
       ·(try dsimp only at hSw)
        unfold oN210
        go_simp
       try simp only[oN210,Act.put,zA,zB,zC]
       refine tk 11 oN211 (.pointer (some ⟨x.gb,k*3+1,none⟩)) rfl (by kernel_rfl) (fun _ _ _ h=>h) (by rfl) (fun w hSw=>?_) hHeld ?_
       ·(try dsimp only at hSw)
        unfold oN211
        go_simp
       try simp only[oN211,Act.put,zA,zB,zC]
       refine tk 12 oN212 (.int .i64 p1) rfl (by kernel_rfl) (fun _ _ _ h=>h) (by rfl) (fun w hSw=>?_) hHeld ?_
       ·(try dsimp only at hSw)
        unfold oN212
        go_simp
       try simp only[oN212,Act.put,zA,zB,zC]
       refine tk 13 oN213 (.pointer (some ⟨w.heap.size,2,none⟩)) rfl (by kernel_rfl) (fun _ _ _ h=>h) (by rfl) (fun w hSw=>?_) hHeld ?_
       ·(try dsimp only at hSw)
        unfold oN213
        go_simp
       try simp only[oN213,Act.put,zA,zB,zC]
       refine tk 14 oN214 (.slice (some ⟨x.gb,0,none⟩) x.b.bs.length x.cb) rfl (by kernel_rfl) (fun _ _ _ h=>h) (by rfl) (fun w hSw=>?_) hHeld ?_
       ·(try dsimp only at hSw)
        unfold oN214
        go_simp
       try simp only[oN214,Act.put,zA,zB,zC]
       refine tk 15 oN215 (.int .i64 k) rfl (by kernel_rfl) (fun _ _ _ h=>h) (by rfl) (fun w hSw=>?_) hHeld ?_
       ·(try dsimp only at hSw)
        unfold oN215
        go_simp
       try simp only[oN215,Act.put,zA,zB,zC]
       refine tk 16 oN216 (.pointer (some ⟨x.gb,k*3,none⟩)) rfl (by kernel_rfl) (fun _ _ _ h=>h) (by rfl) (fun w hSw=>?_) hHeld ?_
       ·(try dsimp only at hSw)
        unfold oN216
        go_simp
       try simp only[oN216,Act.put,zA,zB,zC]
       refine tk 17 oN217 (.pointer (some ⟨x.gb,k*3+2,none⟩)) rfl (by kernel_rfl) (fun _ _ _ h=>h) (by rfl) (fun w hSw=>?_) hHeld ?_
       ·(try dsimp only at hSw)
        unfold oN217
        go_simp
       try simp only[oN217,Act.put,zA,zB,zC]
       refine tk 18 oN218 (.int .i64 p2) rfl (by kernel_rfl) (fun _ _ _ h=>h) (by rfl) (fun w hSw=>?_) hHeld ?_
       ·(try dsimp only at hSw)
        unfold oN218
        go_simp
       try simp only[oN218,Act.put,zA,zB,zC]
       refine tk 19 oN219 (.int .i64 (p2+1000000000000000)) rfl (by kernel_rfl) (fun _ _ _ h=>h) (by rfl) (fun w hSw=>?_) hHeld ?_
       ·(try dsimp only at hSw)
        unfold oN219
        go_simp
       try simp only[oN219,Act.put,zA,zB,zC]
       have KB:(wr.drew.alloc (.cells #[.int .i64 p0,.int .i64 p1,.int .i64 (p2+1000000000000000)] 3)).cell? ⟨w.heap.size,2,none⟩=some (.slice (some ⟨x.gb,0,none⟩) x.b.bs.length x.cb)∧(wr.drew.alloc (.cells #[.int .i64 p0,.int .i64 p1,.int .i64 (p2+1000000000000000)] 3)).cell? ⟨x.gb,k*3,none⟩=some (.int .i64 p0)∧(wr.drew.alloc (.cells #[.int .i64 p0,.int .i64 p1,.int .i64 (p2+1000000000000000)] 3)).cell? ⟨x.gb,k*3+1,none⟩=some (.int .i64 p1)∧(wr.drew.alloc (.cells #[.int .i64 p0,.int .i64 p1,.int .i64 (p2+1000000000000000)] 3)).cell? ⟨x.gb,k*3+2,none⟩=some (.int .i64 p2):=⟨((one_more wr.drew (.cells #[.int .i64 p0,.int .i64 p1,.int .i64 (p2+1000000000000000)] 3)).cell (p:=⟨w.heap.size,2,none⟩) (show w.heap.size<wr.heap.size from(zu S1).s)).trans cf,((one_more wr.drew (.cells #[.int .i64 p0,.int .i64 p1,.int .i64 (p2+1000000000000000)] 3)).cell (p:=⟨x.gb,k*3,none⟩) (show x.gb<wr.heap.size from lg)).trans d0,((one_more wr.drew (.cells #[.int .i64 p0,.int .i64 p1,.int .i64 (p2+1000000000000000)] 3)).cell (p:=⟨x.gb,k*3+1,none⟩) (show x.gb<wr.heap.size from lg)).trans d1,((one_more wr.drew (.cells #[.int .i64 p0,.int .i64 p1,.int .i64 (p2+1000000000000000)] 3)).cell (p:=⟨x.gb,k*3+2,none⟩) (show x.gb<wr.heap.size from lg)).trans d2⟩
       refine wpAnyH_ready (rs:=[20]) (by kernel_rfl) (by simp) ?_
       refine AllReadyH.cons (o:=oN220) rfl (fun K hK=>?_) AllReadyH.nil
       unfold oN220
       go_simp
       refine hK.out _ _ KB (fun hHeld=>?_)
       clear hK K
       try simp only[oN220,Act.put,zA,zB,zC]
       refine wpAnyH_ready (rs:=[21]) (by kernel_rfl) (by simp) ?_
       refine AllReadyH.cons (o:=oN221) rfl (fun K hK=>?_) AllReadyH.nil
       refine step_catI _ (by rfl) _ _ (by rfl) W0.heap.size g n c 3 _ [p0,p1,(p2+1000000000000000)] wr.drew.heap.size 3 (by rfl) (by rfl) (by exact own_allocI (zu HO) _) (by rfl) (by exact lit3 wr.drew p0 p1 (p2+1000000000000000)) (by omega) (Nat.le_trans (show W0.heap.size≤wr.drew.heap.size from bs) (by simp)) ?_
       intro g9 c9 u9 o9 gr9 loc9
       have K9:u9.cell? ⟨w.heap.size,2,none⟩=some (.slice (some ⟨x.gb,0,none⟩) x.b.bs.length x.cb)∧u9.cell? ⟨x.gb,k*3,none⟩=some (.int .i64 p0)∧u9.cell? ⟨x.gb,k*3+1,none⟩=some (.int .i64 p1)∧u9.cell? ⟨x.gb,k*3+2,none⟩=some (.int .i64 p2):=⟨gr9.cell KB.1 (fun e=>by injection e with e;simp at e;have:=(zu S0).s;omega),gr9.cell KB.2.1 (fun e=>by injection e with e;simp at e;have:=(zu XB).2;omega),gr9.cell KB.2.2.1 (fun e=>by injection e with e;simp at e;have:=(zu XB).2;omega),gr9.cell KB.2.2.2 (fun e=>by injection e with e;simp at e;have:=(zu XB).2;omega)⟩
       have O9:=zh o9
       have B9:=zh (((zu HB).drew.alloc (show W0.heap.size≤wr.heap.size from bs) (.cells #[.int .i64 p0,.int .i64 p1,.int .i64 (p2+1000000000000000)] 3)).grown gr9 (Nat.le_trans (show W0.heap.size≤wr.drew.heap.size from bs) (by simp)) (fun j hj=>by cases hj;exact og.1))
       clear o9 gr9 loc9
       refine hK.out _ _ K9 (fun hHeld=>?_)
       clear hK K
       try simp only[oN221,Act.put,zA,zB,zC]
       refine tk 22 oN222 (.slice (some ⟨g9,0,none⟩) (n+3) c9) rfl (by kernel_rfl) (fun _ _ _ h=>h) (by rfl) (fun w hSw=>?_) hHeld ?_
       ·(try dsimp only at hSw)
        unfold oN222
        go_simp
       try simp only[oN222,Act.put,zA,zB,zC]
       refine wpAnyH_done (by kernel_rfl) ?_ _
       go_wp2
       go_roundw
       case rel=>exact⟨k+1,g9,c9,n+3,by go_num,by omega,rfl,by omega,zh (by rw[zu NX];first|exact zu O9|(rw[ws];exact zu O9)|(rw[←List.append_assoc];exact zu O9)|(rw[←List.append_assoc,ws];exact zu O9)),B9⟩
       case measure=>simp[intOf];omega
      ·have e:k=x.b.bs.length:=by omega
       subst e
       have O:=zu HO
       rw[List.take_length] at O
       have HO:=zh O
       clear O hk t
       have cg:=(zu S1).c.c3
       go_wp2_with (first|(at_builtin;refine wp_catI _ rfl _ _ rfl W0.heap.size g n c 1 _ [(x.b.ls.length:Int)] _ 1 rfl rfl (own_allocI (zu HO) _) rfl (lit1 _ _) (by omega) (by simp;omega) ?_)|go_in)
       intro g9 c9 u9 o9 gr9 loc9
       have O3:=zh (show Ints.Own u9 W0.heap.size g9 (n+1) c9 (A2++x.b.bs.flatMap row3++[(x.b.ls.length:Int)]) from by first|exact o9|(rw[List.append_assoc];exact o9)|(rw[ws];exact o9)|(rw[ws,List.append_assoc];exact o9))
       have B3:=zh (((zu HB).alloc bs (.cells #[.int .i64 (x.b.ls.length:Int)] 3)).grown gr9 (by simp;omega) (fun j hj=>by cases hj;exact og.1))
       have n9:n+1≤1+2*1048576+1+2*1048576+1+3*1048576+1:=by omega
       clear o9 gr9 loc9 HO HB S1 cf cg bs og
       generalize hA:A2++x.b.bs.flatMap row3++[(x.b.ls.length:Int)]=A3 at *
       have HA3:=zh hA
       clear hA
       go_wp2
       go_loopw [3,7,8] (fun l i _ wr=>∃(k g c n:Nat),i= .int .i64 k∧k≤x.b.ls.length∧l= .slice (some ⟨g,0,none⟩) n c∧n≤1+2*1048576+1+2*1048576+1+3*1048576+1+5*k∧Hid (Ints.Own wr W0.heap.size g n c (A3++(x.b.ls.take k).flatMap row5))∧Hid (Below W0.heap.size W0 wr)) (fun _ i _ _=>x.b.ls.length-(intOf i).toNat)
       case atStart=>exact⟨0,_,_,_,rfl,by omega,rfl,by omega,zh (by simpa using zu O3),B3⟩
       case round=>
        clear O3 B3
        obtain⟨k,g,c,n,rfl,hk,rfl,nk,HO,HB⟩:=hrel
        have bs:=(zu HB).size
        have og:=(zu HO).lt
        have S1:=zh ((zu S0).step (zu HB))
        have cf:=(zu S1).c.c3
        by_cases t:k<x.b.ls.length
        ·have kt:(k:Int)<x.b.ls.length:=by omega
         have d:=(zu S1).r.rl k t
         have lg:=(zu S1).r.ll
         have NX:=zh (flat_more (f:=row5) ((0,0,0,0,0):T5) t)
         change Hid (_=_++row5 (el5 x.b.ls k)) at NX
         change wr.cell? ⟨x.gl,k*5,none⟩=some (.int .i64 (el5 x.b.ls k).1)∧wr.cell? ⟨x.gl,k*5+1,none⟩=some (.int .i64 (el5 x.b.ls k).2.1)∧wr.cell? ⟨x.gl,k*5+2,none⟩=some (.int .i64 (el5 x.b.ls k).2.2.1)∧wr.cell? ⟨x.gl,k*5+3,none⟩=some (.int .i64 (el5 x.b.ls k).2.2.2.1)∧wr.cell? ⟨x.gl,k*5+4,none⟩=some (.int .i64 (el5 x.b.ls k).2.2.2.2) at d
         generalize el5 x.b.ls k=p at *
         obtain⟨p0,p1,p2,p3,p4⟩:=p
         obtain⟨d0,d1,d2,d3,d4⟩:=d
         have LL:=zh (lit5 (wr.alloc (.cells #[.int .i64 p0,.int .i64 p1,.int .i64 p2,.int .i64 p3,.int .i64 p4] 148)) p0 p1 p2 p3 p4)
         rw[show(wr.alloc (.cells #[.int .i64 p0,.int .i64 p1,.int .i64 p2,.int .i64 p3,.int .i64 p4] 148)).heap.size=wr.heap.size+1 by simp] at LL
         go_wp2_with (first|(at_builtin;refine wp_catI _ rfl _ _ rfl W0.heap.size g n c 5 _ [p0,p1,p2,p3,p4] (wr.heap.size+1) 5 rfl rfl (own_allocI (own_allocI (zu HO) _) _) rfl (zu LL) (by omega) (by simp;omega) ?_)|go_in)
         intro g9 c9 u9 o9 gr9 loc9
         have O9:=zh o9
         have B9:=zh ((((zu HB).alloc bs (.cells #[.int .i64 p0,.int .i64 p1,.int .i64 p2,.int .i64 p3,.int .i64 p4] 148)).alloc (by simp;omega) (.cells #[.int .i64 p0,.int .i64 p1,.int .i64 p2,.int .i64 p3,.int .i64 p4] 3)).grown gr9 (by simp;omega) (fun j hj=>by cases hj;exact og.1))
         clear o9 gr9 loc9
         go_wp2
         go_roundw
         case rel=>exact⟨k+1,g9,c9,n+5,by go_num,by omega,rfl,by omega,zh (by rw[zu NX];first|exact zu O9|(rw[ws];exact zu O9)|(rw[←List.append_assoc];exact zu O9)|(rw[←List.append_assoc,ws];exact zu O9)),B9⟩
         case measure=>simp[intOf];omega
        ·have e:k=x.b.ls.length:=by omega
         subst e
         have O:=zu HO
         rw[List.take_length] at O
         have HO:=zh O
         clear O hk t
         have cg:=(zu S1).c.c4
         go_wp2_with (first|(at_builtin;refine wp_catI _ rfl _ _ rfl W0.heap.size g n c 1 _ [(x.b.ts.length:Int)] _ 1 rfl rfl (own_allocI (zu HO) _) rfl (lit1 _ _) (by omega) (by simp;omega) ?_)|go_in)
         intro g9 c9 u9 o9 gr9 loc9
         have O4:=zh (show Ints.Own u9 W0.heap.size g9 (n+1) c9 (A3++x.b.ls.flatMap row5++[(x.b.ts.length:Int)]) from by first|exact o9|(rw[List.append_assoc];exact o9)|(rw[ws];exact o9)|(rw[ws,List.append_assoc];exact o9))
         have B4:=zh (((zu HB).alloc bs (.cells #[.int .i64 (x.b.ts.length:Int)] 3)).grown gr9 (by simp;omega) (fun j hj=>by cases hj;exact og.1))
         have n9:n+1≤1+2*1048576+1+2*1048576+1+3*1048576+1+5*1048576+1:=by omega
         clear o9 gr9 loc9 HO HB S1 cf cg bs og
         generalize hA:A3++x.b.ls.flatMap row5++[(x.b.ts.length:Int)]=A4 at *
         have HA4:=zh hA
         clear hA
         go_wp2
         go_loopw [3,9,10] (fun l i _ wr=>∃(k g c n:Nat),i= .int .i64 k∧k≤x.b.ts.length∧l= .slice (some ⟨g,0,none⟩) n c∧n≤1+2*1048576+1+2*1048576+1+3*1048576+1+5*1048576+1+8*k∧Hid (Ints.Own wr W0.heap.size g n c (A4++(x.b.ts.take k).flatMap row8))∧Hid (Below W0.heap.size W0 wr)) (fun _ i _ _=>x.b.ts.length-(intOf i).toNat)
         case atStart=>exact⟨0,_,_,_,rfl,by omega,rfl,by omega,zh (by simpa using zu O4),B4⟩
         case round=>
          clear O4 B4
          obtain⟨k,g,c,n,rfl,hk,rfl,nk,HO,HB⟩:=hrel
          have bs:=(zu HB).size
          have og:=(zu HO).lt
          have S1:=zh ((zu S0).step (zu HB))
          have cf:=(zu S1).c.c4
          by_cases t:k<x.b.ts.length
          ·have kt:(k:Int)<x.b.ts.length:=by omega
           have d:=(zu S1).r.rt k t
           have lg:=(zu S1).r.lt
           have NX:=zh (flat_more (f:=row8) ((0,0,0,0,0,0,0,0):T8) t)
           change Hid (_=_++row8 (el8 x.b.ts k)) at NX
           change wr.cell? ⟨x.gt,k*8,none⟩=some (.int .i64 (el8 x.b.ts k).1)∧wr.cell? ⟨x.gt,k*8+1,none⟩=some (.int .i64 (el8 x.b.ts k).2.1)∧wr.cell? ⟨x.gt,k*8+2,none⟩=some (.int .i64 (el8 x.b.ts k).2.2.1)∧wr.cell? ⟨x.gt,k*8+3,none⟩=some (.int .i64 (el8 x.b.ts k).2.2.2.1)∧wr.cell? ⟨x.gt,k*8+4,none⟩=some (.int .i64 (el8 x.b.ts k).2.2.2.2.1)∧wr.cell? ⟨x.gt,k*8+5,none⟩=some (.int .i64 (el8 x.b.ts k).2.2.2.2.2.1)∧wr.cell? ⟨x.gt,k*8+6,none⟩=some (.int .i64 (el8 x.b.ts k).2.2.2.2.2.2.1)∧wr.cell? ⟨x.gt,k*8+7,none⟩=some (.int .i64 (el8 x.b.ts k).2.2.2.2.2.2.2) at d
           generalize el8 x.b.ts k=p at *
           obtain⟨p0,p1,p2,p3,p4,p5,p6,p7⟩:=p
           obtain⟨d0,d1,d2,d3,d4,d5,d6,d7⟩:=d
           have LL:=zh (lit8 (wr.alloc (.cells #[.int .i64 p0,.int .i64 p1,.int .i64 p2,.int .i64 p3,.int .i64 p4,.int .i64 p5,.int .i64 p6,.int .i64 p7] 141)) p0 p1 p2 p3 p4 p5 p6 p7)
           rw[show(wr.alloc (.cells #[.int .i64 p0,.int .i64 p1,.int .i64 p2,.int .i64 p3,.int .i64 p4,.int .i64 p5,.int .i64 p6,.int .i64 p7] 141)).heap.size=wr.heap.size+1 by simp] at LL
           go_wp2_with (first|(at_builtin;refine wp_catI _ rfl _ _ rfl W0.heap.size g n c 8 _ [p0,p1,p2,p3,p4,p5,p6,p7] (wr.heap.size+1) 8 rfl rfl (own_allocI (own_allocI (zu HO) _) _) rfl (zu LL) (by omega) (by simp;omega) ?_)|go_in)
           intro g9 c9 u9 o9 gr9 loc9
           have O9:=zh o9
           have B9:=zh ((((zu HB).alloc bs (.cells #[.int .i64 p0,.int .i64 p1,.int .i64 p2,.int .i64 p3,.int .i64 p4,.int .i64 p5,.int .i64 p6,.int .i64 p7] 141)).alloc (by simp;omega) (.cells #[.int .i64 p0,.int .i64 p1,.int .i64 p2,.int .i64 p3,.int .i64 p4,.int .i64 p5,.int .i64 p6,.int .i64 p7] 3)).grown gr9 (by simp;omega) (fun j hj=>by cases hj;exact og.1))
           clear o9 gr9 loc9
           go_wp2
           go_roundw
           case rel=>exact⟨k+1,g9,c9,n+8,by go_num,by omega,rfl,by omega,zh (by rw[zu NX];first|exact zu O9|(rw[ws];exact zu O9)|(rw[←List.append_assoc];exact zu O9)|(rw[←List.append_assoc,ws];exact zu O9)),B9⟩
           case measure=>simp[intOf];omega
          ·have e:k=x.b.ts.length:=by omega
           subst e
           have O:=zu HO
           rw[List.take_length] at O
           have HO:=zh O
           clear O hk t
           have cg:=(zu S1).c.c5
           go_wp2_with (first|(at_builtin;refine wp_catI _ rfl _ _ rfl W0.heap.size g n c 1 _ [x.b.lot] _ 1 rfl rfl (own_allocI (zu HO) _) rfl (lit1 _ _) (by omega) (by simp;omega) ?_)|go_in)
           intro g9 c9 u9 o9 gr9 loc9
           have O9:=zh o9
           have B9:=zh (((zu HB).alloc bs (.cells #[.int .i64 x.b.lot] 3)).grown gr9 (by simp;omega) (fun j hj=>by cases hj;exact og.1))
           clear o9 gr9 loc9
           go_wp2
           go_ret
           have E:A4++x.b.ts.flatMap row8++[x.b.lot]=nums x.b:=by rw[←zu HA4,←zu HA3,←zu HA2,←zu HA1,←zu HA0];rfl
           have O:Ints.Own u9 W0.heap.size g9 (n+1) c9 (A4++x.b.ts.flatMap row8++[x.b.lot]):=by first|exact zu O9|(rw[List.append_assoc];exact zu O9)|(rw[ws];exact zu O9)|(rw[ws,List.append_assoc];exact zu O9)
           rw[E] at O
           have l:=O.len
           refine⟨g9,c9,?_,?_,((zu S0).b.trans ((zu B9).mono (by omega)))⟩
           ·rw[l];rfl
           ·rw[l];exact O.mono (by omega)
end SNums13
namespace AccountSOk
open Pairs Chart
def Tells(b:Bool)(x lo hi:Int):Prop:=b=true↔lo≤x∧x≤hi
theorem tells_of(x lo hi:Int):∃b,Tells b x lo hi:=bool_of _
theorem sIn(x lo hi:Int)(b:Bool)(w:World)(hb:Tells b x lo hi):
  Calls Tryz.prog 35 #[.int .i64 x,.int .i64 lo,.int .i64 hi] w fun e w'=>e= .returned (.bool b)∧w'=w:=by
 cases b
 ·have H:=zh (show lo≤x→¬x≤hi from fun h1 h2=>Bool.noConfusion ((zu hb).2 ⟨h1,h2⟩))
  clear hb
  by_cases h1:lo≤x
  ·have h2:=(zu H) h1
   clear H
   go_enter Tryz.func35,Tryz.ntmps35
   go_wp2
   go_ret
   exact⟨rfl,rfl⟩
  ·clear H
   go_enter Tryz.func35,Tryz.ntmps35
   go_wp2
   go_ret
   exact⟨rfl,rfl⟩
 ·obtain⟨h1,h2⟩:=(zu hb).1 rfl
  clear hb
  go_enter Tryz.func35,Tryz.ntmps35
  go_wp2
  go_ret
  exact⟨rfl,rfl⟩
theorem sNo(x:Int)(b:Bool)(w:World)(hb:Tells b x 1 1000):
  Calls Tryz.prog 121 #[.int .i64 x] w fun e w'=>e= .returned (.bool b)∧w'=w:=by
 go_enter Tryz.func121,Tryz.ntmps121
 go_wp2_with fail
 refine(sIn x 1 1000 b _ hb).mono ?_
 rintro e w' ⟨rfl,rfl⟩
 go_wp2
 go_ret
 exact⟨rfl,rfl⟩
theorem drewN_more{w wr:World}(h:∃q,wr=w.drewN q)(m:Nat):∃q,wr.drewN m=w.drewN q:=by
 obtain⟨q,rfl⟩:=h
 exact⟨q+m,World.drewN_drewN ..⟩
theorem sOk(w:World)(g n cap:Nat)(ps:List (Int×Int))(ok:Bool)(hl:ps.length=n)(h20:n≤1048576)(h:At w g ps)(hok:Says ok 20 4 ps):
  Calls Tryz.prog 95 #[.slice (some ⟨g,0,none⟩) n cap] w fun e w'=>e= .returned (.bool ok)∧∃q,w'=w.drewN q:=by
 by_cases nn:(20:Int)<(n:Int)
 ·obtain rfl:ok=false:=hok.not (fun r=>by have:=r.1;omega)
  clear hok h
  go_enter Tryz.func95,Tryz.ntmps95
  go_wp2
  go_ret
  exact⟨rfl,0,rfl⟩
 go_enter Tryz.func95,Tryz.ntmps95
 go_wp2
 go_loopw [3] (fun i wr=>∃(k:Nat),k≤n∧i= .int .i64 k∧At wr g ps∧Hid (∃q,wr=w.drewN q)∧Hid (∀i,i<k→RowOk 4 ps i)) (fun i _=>n-(intOf i).toNat)
 case atStart=>exact⟨0,by omega,rfl,h,zh ⟨0,rfl⟩,zh (fun i hi=>absurd hi (by omega))⟩
 case round=>
  clear h
  obtain⟨k,hk,rfl,h,HQ,HG⟩:=hrel
  by_cases t:k<n
  ·obtain⟨e1,e2⟩:=h k (by omega)
   have e3:0<k→wr.cell? ⟨g,(k-1)*2,none⟩=some (.int .i64 (el ps (k-1)).1):=fun k0=>(h (k-1) (by omega)).1
   obtain⟨b1,B1⟩:=tells_of (el ps k).1 1 1000
   obtain⟨b2,B2⟩:=tells_of (el ps k).2 1 4
   have ROW:=zh (show RowOk 4 ps k↔(b1=true)∧(b2=true)∧(0<k→(el ps (k-1)).1<(el ps k).1) from by unfold Tells at B1 B2;rw[B1,B2];exact Iff.rfl)
   have HA:=zh h
   clear h
   have BAD:=zh (show ¬RowOk 4 ps k→ok=false from fun hr=>hok.not (fun r=>hr (r.2 k (by omega))))
   have GOOD:=zh (show RowOk 4 ps k→∀i,i<k+1→RowOk 4 ps i from fun hr i hi=>by
    by_cases e:i=k
    ·subst e;exact hr
    ·exact(zu HG) i (by omega))
   generalize (el ps k).1=x at *
   generalize (el ps k).2=y at *
   cases b1
   ·have OKF:=zh ((zu BAD) (fun hr=>by have:=((zu ROW).1 hr).1;cases this))
    clear BAD GOOD ROW e3
    go_wp2_with fail
    go_quiet (first|(go_at_call 121;refine Calls.quiet_of_same (sNo _ false _ B1)))
    go_wp2
    go_ret
    exact⟨by rw[zu OKF];rfl,drewN_more (zu HQ) _⟩
   ·cases b2
    ·have OKF:=zh ((zu BAD) (fun hr=>by have:=((zu ROW).1 hr).2.1;cases this))
     clear BAD GOOD ROW e3
     go_wp2_with fail
     go_quiet (first|(go_at_call 121;refine Calls.quiet_of_same (sNo _ true _ B1))|(go_at_call 35;refine Calls.quiet_of_same (sIn _ _ _ false _ B2)))
     go_wp2
     go_ret
     exact⟨by rw[zu OKF];rfl,drewN_more (zu HQ) _⟩
    ·by_cases k0:0<k
     ·have e3:=e3 k0
      have k1:(0:Int)<(k:Int):=by omega
      have k2:(0:Int)≤(k:Int) -1:=by omega
      have k3:((k:Int) -1).toNat=k-1:=by omega
      by_cases lt:(el ps (k-1)).1<x
      ·have GO:=zh ((zu GOOD) ((zu ROW).2 ⟨rfl,rfl,fun _=>lt⟩))
       clear BAD GOOD ROW
       have ge:¬x≤(el ps (k-1)).1:=by omega
       generalize (el ps (k-1)).1=z at *
       go_wp2_with fail
       go_quiet (first|(go_at_call 121;refine Calls.quiet_of_same (sNo _ true _ B1))|(go_at_call 35;refine Calls.quiet_of_same (sIn _ _ _ true _ B2)))
       go_wp2
       go_roundw
       case rel=>exact⟨k+1,by omega,by go_num,zu HA,zh (drewN_more (zu HQ) _),GO⟩
       case measure=>simp[intOf];omega
      ·have OKF:=zh ((zu BAD) (fun hr=>lt (((zu ROW).1 hr).2.2 k0)))
       clear BAD GOOD ROW
       have ge:x≤(el ps (k-1)).1:=by omega
       generalize (el ps (k-1)).1=z at *
       go_wp2_with fail
       go_quiet (first|(go_at_call 121;refine Calls.quiet_of_same (sNo _ true _ B1))|(go_at_call 35;refine Calls.quiet_of_same (sIn _ _ _ true _ B2)))
       go_wp2
       go_ret
       exact⟨by rw[zu OKF];rfl,drewN_more (zu HQ) _⟩
     ·obtain rfl:k=0:=by omega
      have GO:=zh ((zu GOOD) ((zu ROW).2 ⟨rfl,rfl,fun h0=>absurd h0 k0⟩))
      clear BAD GOOD ROW e3
      go_wp2_with fail
      go_quiet (first|(go_at_call 121;refine Calls.quiet_of_same (sNo _ true _ B1))|(go_at_call 35;refine Calls.quiet_of_same (sIn _ _ _ true _ B2)))
      go_wp2
      go_roundw
      case rel=>exact⟨1,by omega,by go_num,zu HA,zh (drewN_more (zu HQ) _),GO⟩
      case measure=>simp[intOf];omega
  ·obtain rfl:k=n:=by omega
   obtain rfl:ok=true:=hok.of ⟨by omega,by rw[hl];exact zu HG⟩
   clear h hok
   go_wp2
   go_ret
   exact⟨rfl,zu HQ⟩
theorem sKind(w:World)(g n cap:Nat)(ps:List (Int×Int))(no:Int)(hl:ps.length=n)(h20:n≤1048576)(h:At w g ps):
  Calls Tryz.prog 102 #[.slice (some ⟨g,0,none⟩) n cap,.int .i64 no] w fun e w'=>∃r,IsKind 20 4 ps no r∧e= .returned (.int .i64 r)∧∃q,w'=w.drewN q:=by
 obtain⟨ok,OK⟩:=says_of 20 4 ps
 go_enter Tryz.func102,Tryz.ntmps102
 go_wp2
 go_loopw [5] (fun i wr=>∃(k:Nat),k≤n∧i= .int .i64 k∧At wr g ps∧Hid (∃q,wr=w.drewN q)∧Hid (∀i,i<k→(el ps i).1≠no)) (fun i _=>n-(intOf i).toNat)
 case atStart=>exact⟨0,by omega,rfl,h,zh ⟨0,rfl⟩,zh (fun i hi=>absurd hi (by omega))⟩
 case round=>
  clear h
  obtain⟨k,hk,rfl,h,HQ,HG⟩:=hrel
  by_cases t:k<n
  ·obtain⟨e1,e2⟩:=h k (by omega)
   have HA:=zh h
   clear h
   have GO:=zh (show(el ps k).1≠no→∀i,i<k+1→(el ps i).1≠no from fun hn i hi=>by
    by_cases e:i=k
    ·subst e;exact hn
    ·exact(zu HG) i (by omega))
   have YES:=zh (show ok=true→(el ps k).1=no→IsKind 20 4 ps no (el ps k).2 from fun ho he=> .inl ⟨OK.1 ho,k,by omega,he,rfl⟩)
   generalize (el ps k).1=x at *
   generalize (el ps k).2=y at *
   cases ok
   ·go_wp2_with fail
    refine(sOk _ _ _ _ ps false hl h20 (zu HA) OK).mono ?_
    rintro e w2 ⟨rfl,nq,rfl⟩
    go_wp2
    go_ret
    exact⟨0,.inr ⟨.inl OK.no,rfl⟩,rfl,drewN_more (zu HQ) _⟩
   ·go_wp2_with fail
    refine(sOk _ _ _ _ ps true hl h20 (zu HA) OK).mono ?_
    rintro e w2 ⟨rfl,nq,rfl⟩
    by_cases eq:x=no
    ·have Y:=zh ((zu YES) (by trivial) eq)
     clear YES GO
     subst eq
     go_wp2
     go_ret
     exact⟨y,zu Y,rfl,drewN_more (zu HQ) _⟩
    ·have eqb:(x==no)=false:=by simpa using eq
     have G:=zh ((zu GO) eq)
     clear YES GO
     go_wp2
     go_roundw
     case rel=>exact⟨k+1,by omega,by go_num,zu HA,zh (drewN_more (zu HQ) _),G⟩
     case measure=>simp[intOf];omega
  ·obtain rfl:k=n:=by omega
   have K0:=zh (show IsKind 20 4 ps no 0 from .inr ⟨.inr (fun i hi=>(zu HG) i (by omega)),rfl⟩)
   clear h
   go_wp2
   go_ret
   exact⟨0,zu K0,rfl,zu HQ⟩
end AccountSOk
namespace InstrSOk
open Pairs Chart
def Tells(b:Bool)(x lo hi:Int):Prop:=b=true↔lo≤x∧x≤hi
theorem tells_of(x lo hi:Int):∃b,Tells b x lo hi:=bool_of _
theorem sIn(x lo hi:Int)(b:Bool)(w:World)(hb:Tells b x lo hi):
  Calls Tryz.prog 35 #[.int .i64 x,.int .i64 lo,.int .i64 hi] w fun e w'=>e= .returned (.bool b)∧w'=w:=by
 cases b
 ·have H:=zh (show lo≤x→¬x≤hi from fun h1 h2=>Bool.noConfusion ((zu hb).2 ⟨h1,h2⟩))
  clear hb
  by_cases h1:lo≤x
  ·have h2:=(zu H) h1
   clear H
   go_enter Tryz.func35,Tryz.ntmps35
   go_wp2
   go_ret
   exact⟨rfl,rfl⟩
  ·clear H
   go_enter Tryz.func35,Tryz.ntmps35
   go_wp2
   go_ret
   exact⟨rfl,rfl⟩
 ·obtain⟨h1,h2⟩:=(zu hb).1 rfl
  clear hb
  go_enter Tryz.func35,Tryz.ntmps35
  go_wp2
  go_ret
  exact⟨rfl,rfl⟩
theorem sNo(x:Int)(b:Bool)(w:World)(hb:Tells b x 1 1000):
  Calls Tryz.prog 121 #[.int .i64 x] w fun e w'=>e= .returned (.bool b)∧w'=w:=by
 go_enter Tryz.func121,Tryz.ntmps121
 go_wp2_with fail
 refine(sIn x 1 1000 b _ hb).mono ?_
 rintro e w' ⟨rfl,rfl⟩
 go_wp2
 go_ret
 exact⟨rfl,rfl⟩
theorem drewN_more{w wr:World}(h:∃q,wr=w.drewN q)(m:Nat):∃q,wr.drewN m=w.drewN q:=by
 obtain⟨q,rfl⟩:=h
 exact⟨q+m,World.drewN_drewN ..⟩
theorem sOk(w:World)(g n cap:Nat)(ps:List (Int×Int))(ok:Bool)(hl:ps.length=n)(h20:n≤1048576)(h:At w g ps)(hok:Says ok 8 2 ps):
  Calls Tryz.prog 96 #[.slice (some ⟨g,0,none⟩) n cap] w fun e w'=>e= .returned (.bool ok)∧∃q,w'=w.drewN q:=by
 by_cases nn:(8:Int)<(n:Int)
 ·obtain rfl:ok=false:=hok.not (fun r=>by have:=r.1;omega)
  clear hok h
  go_enter Tryz.func96,Tryz.ntmps96
  go_wp2
  go_ret
  exact⟨rfl,0,rfl⟩
 go_enter Tryz.func96,Tryz.ntmps96
 go_wp2
 go_loopw [3] (fun i wr=>∃(k:Nat),k≤n∧i= .int .i64 k∧At wr g ps∧Hid (∃q,wr=w.drewN q)∧Hid (∀i,i<k→RowOk 2 ps i)) (fun i _=>n-(intOf i).toNat)
 case atStart=>exact⟨0,by omega,rfl,h,zh ⟨0,rfl⟩,zh (fun i hi=>absurd hi (by omega))⟩
 case round=>
  clear h
  obtain⟨k,hk,rfl,h,HQ,HG⟩:=hrel
  by_cases t:k<n
  ·obtain⟨e1,e2⟩:=h k (by omega)
   have e3:0<k→wr.cell? ⟨g,(k-1)*2,none⟩=some (.int .i64 (el ps (k-1)).1):=fun k0=>(h (k-1) (by omega)).1
   obtain⟨b1,B1⟩:=tells_of (el ps k).1 1 1000
   obtain⟨b2,B2⟩:=tells_of (el ps k).2 1 2
   have ROW:=zh (show RowOk 2 ps k↔(b1=true)∧(b2=true)∧(0<k→(el ps (k-1)).1<(el ps k).1) from by unfold Tells at B1 B2;rw[B1,B2];exact Iff.rfl)
   have HA:=zh h
   clear h
   have BAD:=zh (show ¬RowOk 2 ps k→ok=false from fun hr=>hok.not (fun r=>hr (r.2 k (by omega))))
   have GOOD:=zh (show RowOk 2 ps k→∀i,i<k+1→RowOk 2 ps i from fun hr i hi=>by
    by_cases e:i=k
    ·subst e;exact hr
    ·exact(zu HG) i (by omega))
   generalize (el ps k).1=x at *
   generalize (el ps k).2=y at *
   cases b1
   ·have OKF:=zh ((zu BAD) (fun hr=>by have:=((zu ROW).1 hr).1;cases this))
    clear BAD GOOD ROW e3
    go_wp2_with fail
    go_quiet (first|(go_at_call 121;refine Calls.quiet_of_same (sNo _ false _ B1)))
    go_wp2
    go_ret
    exact⟨by rw[zu OKF];rfl,drewN_more (zu HQ) _⟩
   ·cases b2
    ·have OKF:=zh ((zu BAD) (fun hr=>by have:=((zu ROW).1 hr).2.1;cases this))
     clear BAD GOOD ROW e3
     go_wp2_with fail
     go_quiet (first|(go_at_call 121;refine Calls.quiet_of_same (sNo _ true _ B1))|(go_at_call 35;refine Calls.quiet_of_same (sIn _ _ _ false _ B2)))
     go_wp2
     go_ret
     exact⟨by rw[zu OKF];rfl,drewN_more (zu HQ) _⟩
    ·by_cases k0:0<k
     ·have e3:=e3 k0
      have k1:(0:Int)<(k:Int):=by omega
      have k2:(0:Int)≤(k:Int) -1:=by omega
      have k3:((k:Int) -1).toNat=k-1:=by omega
      by_cases lt:(el ps (k-1)).1<x
      ·have GO:=zh ((zu GOOD) ((zu ROW).2 ⟨rfl,rfl,fun _=>lt⟩))
       clear BAD GOOD ROW
       have ge:¬x≤(el ps (k-1)).1:=by omega
       generalize (el ps (k-1)).1=z at *
       go_wp2_with fail
       go_quiet (first|(go_at_call 121;refine Calls.quiet_of_same (sNo _ true _ B1))|(go_at_call 35;refine Calls.quiet_of_same (sIn _ _ _ true _ B2)))
       go_wp2
       go_roundw
       case rel=>exact⟨k+1,by omega,by go_num,zu HA,zh (drewN_more (zu HQ) _),GO⟩
       case measure=>simp[intOf];omega
      ·have OKF:=zh ((zu BAD) (fun hr=>lt (((zu ROW).1 hr).2.2 k0)))
       clear BAD GOOD ROW
       have ge:x≤(el ps (k-1)).1:=by omega
       generalize (el ps (k-1)).1=z at *
       go_wp2_with fail
       go_quiet (first|(go_at_call 121;refine Calls.quiet_of_same (sNo _ true _ B1))|(go_at_call 35;refine Calls.quiet_of_same (sIn _ _ _ true _ B2)))
       go_wp2
       go_ret
       exact⟨by rw[zu OKF];rfl,drewN_more (zu HQ) _⟩
     ·obtain rfl:k=0:=by omega
      have GO:=zh ((zu GOOD) ((zu ROW).2 ⟨rfl,rfl,fun h0=>absurd h0 k0⟩))
      clear BAD GOOD ROW e3
      go_wp2_with fail
      go_quiet (first|(go_at_call 121;refine Calls.quiet_of_same (sNo _ true _ B1))|(go_at_call 35;refine Calls.quiet_of_same (sIn _ _ _ true _ B2)))
      go_wp2
      go_roundw
      case rel=>exact⟨1,by omega,by go_num,zu HA,zh (drewN_more (zu HQ) _),GO⟩
      case measure=>simp[intOf];omega
  ·obtain rfl:k=n:=by omega
   obtain rfl:ok=true:=hok.of ⟨by omega,by rw[hl];exact zu HG⟩
   clear h hok
   go_wp2
   go_ret
   exact⟨rfl,zu HQ⟩
theorem sKind(w:World)(g n cap:Nat)(ps:List (Int×Int))(no:Int)(hl:ps.length=n)(h20:n≤1048576)(h:At w g ps):
  Calls Tryz.prog 103 #[.slice (some ⟨g,0,none⟩) n cap,.int .i64 no] w fun e w'=>∃r,IsKind 8 2 ps no r∧e= .returned (.int .i64 r)∧∃q,w'=w.drewN q:=by
 obtain⟨ok,OK⟩:=says_of 8 2 ps
 go_enter Tryz.func103,Tryz.ntmps103
 go_wp2
 go_loopw [5] (fun i wr=>∃(k:Nat),k≤n∧i= .int .i64 k∧At wr g ps∧Hid (∃q,wr=w.drewN q)∧Hid (∀i,i<k→(el ps i).1≠no)) (fun i _=>n-(intOf i).toNat)
 case atStart=>exact⟨0,by omega,rfl,h,zh ⟨0,rfl⟩,zh (fun i hi=>absurd hi (by omega))⟩
 case round=>
  clear h
  obtain⟨k,hk,rfl,h,HQ,HG⟩:=hrel
  by_cases t:k<n
  ·obtain⟨e1,e2⟩:=h k (by omega)
   have HA:=zh h
   clear h
   have GO:=zh (show(el ps k).1≠no→∀i,i<k+1→(el ps i).1≠no from fun hn i hi=>by
    by_cases e:i=k
    ·subst e;exact hn
    ·exact(zu HG) i (by omega))
   have YES:=zh (show ok=true→(el ps k).1=no→IsKind 8 2 ps no (el ps k).2 from fun ho he=> .inl ⟨OK.1 ho,k,by omega,he,rfl⟩)
   generalize (el ps k).1=x at *
   generalize (el ps k).2=y at *
   cases ok
   ·go_wp2_with fail
    refine(sOk _ _ _ _ ps false hl h20 (zu HA) OK).mono ?_
    rintro e w2 ⟨rfl,nq,rfl⟩
    go_wp2
    go_ret
    exact⟨0,.inr ⟨.inl OK.no,rfl⟩,rfl,drewN_more (zu HQ) _⟩
   ·go_wp2_with fail
    refine(sOk _ _ _ _ ps true hl h20 (zu HA) OK).mono ?_
    rintro e w2 ⟨rfl,nq,rfl⟩
    by_cases eq:x=no
    ·have Y:=zh ((zu YES) (by trivial) eq)
     clear YES GO
     subst eq
     go_wp2
     go_ret
     exact⟨y,zu Y,rfl,drewN_more (zu HQ) _⟩
    ·have eqb:(x==no)=false:=by simpa using eq
     have G:=zh ((zu GO) eq)
     clear YES GO
     go_wp2
     go_roundw
     case rel=>exact⟨k+1,by omega,by go_num,zu HA,zh (drewN_more (zu HQ) _),G⟩
     case measure=>simp[intOf];omega
  ·obtain rfl:k=n:=by omega
   have K0:=zh (show IsKind 8 2 ps no 0 from .inr ⟨.inr (fun i hi=>(zu HG) i (by omega)),rfl⟩)
   clear h
   go_wp2
   go_ret
   exact⟨0,zu K0,rfl,zu HQ⟩
end InstrSOk
namespace SBals
open BMem Bks IRead IHave ITrade ILists IBalsFit
open Lots (Says says_of NoOk)
open Bals (T3 el3 val sumI)
theorem sKindA(w:World)(x:Bx)(no r:Int)(h:Rd w x)(hr:Chart.Right 20 4 x.b.ac)(hk:kindOf x.b.ac no=r):
  Calls Tryz.prog 102 #[.slice (some ⟨x.ga,0,none⟩) x.b.ac.length x.ca,.int .i64 no] w fun e w'=>e= .returned (.int .i64 r)∧Below w.heap.size w w':=
 (AccountSOk.sKind w x.ga _ x.ca x.b.ac no rfl h.na h.ra).mono fun e w' ⟨r',h1,h2,q,h3⟩=>⟨by rw[h2,kind_is hr h1,hk],by rw[h3];exact below_drewN (Below.refl _ _) q⟩
theorem sKindI(w:World)(x:Bx)(no r:Int)(h:Rd w x)(hr:Chart.Right 8 2 x.b.ic)(hk:kindOf x.b.ic no=r):
  Calls Tryz.prog 103 #[.slice (some ⟨x.gi,0,none⟩) x.b.ic.length x.ci,.int .i64 no] w fun e w'=>e= .returned (.int .i64 r)∧Below w.heap.size w w':=
 (InstrSOk.sKind w x.gi _ x.ci x.b.ic no rfl h.ni h.ri).mono fun e w' ⟨r',h1,h2,q,h3⟩=>⟨by rw[h2,kind_is hr h1,hk],by rw[h3];exact below_drewN (Below.refl _ _) q⟩
theorem sBals(w:World)(x:Bx)(b:Bool)(h:Rd w x)(hl:Lists x.b)(hb:Says b (BalsFit x.b)):
  Calls Tryz.prog 100 #[.agg #[.slice (some ⟨x.ga,0,none⟩) x.b.ac.length x.ca,.slice (some ⟨x.gi,0,none⟩) x.b.ic.length x.ci,.slice (some ⟨x.gb,0,none⟩) x.b.bs.length x.cb,.slice (some ⟨x.gl,0,none⟩) x.b.ls.length x.cl,.slice (some ⟨x.gt,0,none⟩) x.b.ts.length x.ct,.int .i64 x.b.lot]] w fun e w'=>e= .returned (.bool b)∧Below w.heap.size w w':=by
 have T:=zh hb
 have L:=zh hl
 have S0:=zh (St.start h 40)
 have nb:=h.nb
 clear hb hl h
 go_enter Tryz.func100,Tryz.ntmps100
 go_wp2
 go_loopw [3] (fun i wr=>∃(k:Nat),k≤x.b.bs.length∧i= .int .i64 k∧St w wr x∧Hid (∀j,j<k→BalFit x.b (el3 x.b.bs j)∧sumI x.b.bs (el3 x.b.bs j).2.1=0)) (fun i _=>x.b.bs.length-(intOf i).toNat)
 case atStart=>exact⟨0,by omega,rfl,zu S0,zh (fun i hi=>absurd hi (by omega))⟩
 case round=>
  obtain⟨k,hk,rfl,hS,HG⟩:=hrel
  clear S0
  by_cases t:k<x.b.bs.length
  ·obtain⟨d0,d1,d2⟩:=(hS.r.rb k t)
   obtain⟨c0,c1,c2,c3,c4,c5⟩:=hS.c
   have BAD:=zh (show ¬(BalFit x.b (el3 x.b.bs k)∧sumI x.b.bs (el3 x.b.bs k).2.1=0)→b=false from fun hr=>(zu T).not (fun r=>hr ⟨r.1 k t,r.2 _⟩))
   have GOOD:=zh (show(BalFit x.b (el3 x.b.bs k)∧sumI x.b.bs (el3 x.b.bs k).2.1=0)→∀i,i<k+1→BalFit x.b (el3 x.b.bs i)∧sumI x.b.bs (el3 x.b.bs i).2.1=0 from fun hr i hi=>by
    by_cases e:i=k
    ·subst e;exact hr
    ·exact(zu HG) i (by omega))
   have FIT:=zh (show BalFit x.b (el3 x.b.bs k)↔kindOf x.b.ac (el3 x.b.bs k).1≠0∧kindOf x.b.ic (el3 x.b.bs k).2.1≠0∧¬(kindOf x.b.ac (el3 x.b.bs k).1=1∧(el3 x.b.bs k).2.2<0) from Iff.rfl)
   have wz:=hS.s
   have S1:=zh (hS.step (one_more wr (.cells #[.int .i64 (el3 x.b.bs k).1,.int .i64 (el3 x.b.bs k).2.1,.int .i64 (el3 x.b.bs k).2.2] 146)))
   clear hS
   generalize BalFit x.b (el3 x.b.bs k)=FP at *
   generalize (el3 x.b.bs k).1=y0 at *
   generalize (el3 x.b.bs k).2.1=y1 at *
   generalize (el3 x.b.bs k).2.2=y2 at *
   generalize hK:kindOf x.b.ac y0=K at *
   generalize hJ:kindOf x.b.ic y1=J at *
   have HK:=zh hK
   have HJ:=zh hJ
   clear hK hJ
   go_wp2_with fail
   refine(sKindA _ x y0 K (zu S1).r (zu L).1 (zu HK)).mono ?_
   rintro e w1 ⟨rfl,bb⟩
   have S2:=zh ((zu S1).step bb)
   have f0:w1.cell? ⟨wr.heap.size,0,none⟩=some (.int .i64 y0):=(bb.cell (p:=⟨wr.heap.size,0,none⟩) (by simp)).trans (by simp)
   have f1:w1.cell? ⟨wr.heap.size,1,none⟩=some (.int .i64 y1):=(bb.cell (p:=⟨wr.heap.size,1,none⟩) (by simp)).trans (by simp)
   have f2:w1.cell? ⟨wr.heap.size,2,none⟩=some (.int .i64 y2):=(bb.cell (p:=⟨wr.heap.size,2,none⟩) (by simp)).trans (by simp)
   have z1:wr.heap.size<w1.heap.size:=by have:=bb.size;simp at this;omega
   clear bb c0 c1 c2 c3 c4 c5 d0 d1 d2
   obtain⟨c0,c1,c2,c3,c4,c5⟩:=(zu S2).c
   by_cases q0:K=0
   ·have F:=zh ((zu BAD) (fun hh=>((zu FIT).1 hh.1).1 q0))
    have hq:(K==0)=true:=by simp[q0]
    clear BAD GOOD FIT T q0
    go_wp2
    go_ret
    exact⟨by rw[zu F];rfl,(zu S2).b⟩
   have hq0:(K==0)=false:=by simp[q0]
   have Q0:=zh q0
   clear q0
   go_wp2_with fail
   refine(sKindI _ x y1 J (zu S2).r (zu L).2.1 (zu HJ)).mono ?_
   rintro e w2 ⟨rfl,bb⟩
   have S3:=zh ((zu S2).step bb)
   replace f0:w2.cell? ⟨wr.heap.size,0,none⟩=some (.int .i64 y0):=(bb.cell (p:=⟨wr.heap.size,0,none⟩) z1).trans f0
   replace f1:w2.cell? ⟨wr.heap.size,1,none⟩=some (.int .i64 y1):=(bb.cell (p:=⟨wr.heap.size,1,none⟩) z1).trans f1
   replace f2:w2.cell? ⟨wr.heap.size,2,none⟩=some (.int .i64 y2):=(bb.cell (p:=⟨wr.heap.size,2,none⟩) z1).trans f2
   have z2:wr.heap.size<w2.heap.size:=Nat.lt_of_lt_of_le z1 bb.size
   clear bb c0 c1 c2 c3 c4 c5
   obtain⟨c0,c1,c2,c3,c4,c5⟩:=(zu S3).c
   by_cases q1:J=0
   ·have F:=zh ((zu BAD) (fun hh=>((zu FIT).1 hh.1).2.1 q1))
    have hq:(J==0)=true:=by simp[q1]
    clear BAD GOOD FIT T q1
    go_wp2
    go_ret
    exact⟨by rw[zu F];rfl,(zu S3).b⟩
   have hq1:(J==0)=false:=by simp[q1]
   have Q1:=zh q1
   clear q1
   by_cases q2:K=1
   ·have hq2:(K==1)=true:=by simp[q2]
    by_cases q3:y2<0
    ·have F:=zh ((zu BAD) (fun hh=>((zu FIT).1 hh.1).2.2 ⟨q2,q3⟩))
     clear BAD GOOD FIT T q2
     go_wp2
     go_ret
     exact⟨by rw[zu F];rfl,(zu S3).b⟩
    have FP':=zh ((zu FIT).2 ⟨zu Q0,zu Q1,fun r=>q3 r.2⟩)
    have hq3:decide (y2<0)=false:=decide_eq_false q3
    clear q2 q3 FIT
    obtain⟨r,c,hs⟩:=Look.sum_is x.b.bs y1
    have Z:=zh (sum_zero (zu L).2.2.1 hs)
    have HS:=zh hs
    clear hs
    go_wp2_with fail
    refine(Look.sSum _ x.gb _ x.cb x.b.bs y1 r c rfl nb (zu S3).r.lb (zu S3).r.rb (zu HS)).mono ?_
    rintro e w3 ⟨rfl,bb⟩
    have S4:=zh ((zu S3).step bb)
    clear bb c0 c1 c2 c3 c4 c5 f0 f1 f2
    cases c
    ·have F:=zh ((zu BAD) (fun e=>by have:=(zu Z).2 e.2;cases this.1))
     clear BAD GOOD T
     go_wp2
     go_ret
     exact⟨by rw[zu F];rfl,(zu S4).b⟩
    by_cases q:r=0
    ·have G:=zh ((zu GOOD) ⟨zu FP',(zu Z).1 ⟨rfl,q⟩⟩)
     have hq:(r !=0)=false:=by simp[q]
     clear BAD GOOD q
     go_wp2
     go_roundw
     case rel=>exact⟨k+1,by omega,by go_num,zu S4,G⟩
     case measure=>simp[intOf];omega
    ·have F:=zh ((zu BAD) (fun e=>q ((zu Z).2 e.2).2))
     have hq:(r !=0)=true:=by simp[q]
     clear BAD GOOD T q
     go_wp2
     go_ret
     exact⟨by rw[zu F];rfl,(zu S4).b⟩
   ·have hq2:(K==1)=false:=by simp[q2]
    have FP':=zh ((zu FIT).2 ⟨zu Q0,zu Q1,fun r=>q2 r.1⟩)
    clear q2 FIT
    obtain⟨r,c,hs⟩:=Look.sum_is x.b.bs y1
    have Z:=zh (sum_zero (zu L).2.2.1 hs)
    have HS:=zh hs
    clear hs
    go_wp2_with fail
    refine(Look.sSum _ x.gb _ x.cb x.b.bs y1 r c rfl nb (zu S3).r.lb (zu S3).r.rb (zu HS)).mono ?_
    rintro e w3 ⟨rfl,bb⟩
    have S4:=zh ((zu S3).step bb)
    clear bb c0 c1 c2 c3 c4 c5 f0 f1 f2
    cases c
    ·have F:=zh ((zu BAD) (fun e=>by have:=(zu Z).2 e.2;cases this.1))
     clear BAD GOOD T
     go_wp2
     go_ret
     exact⟨by rw[zu F];rfl,(zu S4).b⟩
    by_cases q:r=0
    ·have G:=zh ((zu GOOD) ⟨zu FP',(zu Z).1 ⟨rfl,q⟩⟩)
     have hq:(r !=0)=false:=by simp[q]
     clear BAD GOOD q
     go_wp2
     go_roundw
     case rel=>exact⟨k+1,by omega,by go_num,zu S4,G⟩
     case measure=>simp[intOf];omega
    ·have F:=zh ((zu BAD) (fun e=>q ((zu Z).2 e.2).2))
     have hq:(r !=0)=true:=by simp[q]
     clear BAD GOOD T q
     go_wp2
     go_ret
     exact⟨by rw[zu F];rfl,(zu S4).b⟩
  ·have F:=zh ((zu T).of (bals_spec (fun j hj=>(zu HG) j (by omega))))
   obtain⟨c0,c1,c2,c3,c4,c5⟩:=hS.c
   have S1:=zh hS
   clear hS
   go_wp2
   go_ret
   exact⟨by rw[zu F];rfl,(zu S1).b⟩
end SBals
namespace Legs
open Bals Triples Cmp SOk3 IOk3 Tab Look
def STab(w:World)(B n:Nat)(g:Int→Int):Prop:=∃D:D0,w.ownsMap Tryz.prog 3 (plainElem Tryz.prog 3) B n D∧∀i,(Lit.int .i64 i).wf=true→D.atKey (.int .i64 i) (.lit (.int .i64 0))= .lit (.int .i64 (g i))
theorem STab.kept{w w':World}{B n:Nat}{f:Int→Int}{row:Option Nat}(h:STab w B n f)(hg:w.grownBy w' row)(hne:some B≠row):STab w' B n f:=by
 obtain⟨D,h1,h2⟩:=h
 exact⟨D,h1.kept hg hne,h2⟩
theorem STab.lt{w:World}{B n:Nat}{f:Int→Int}(h:STab w B n f):B<w.heap.size:=by
 obtain⟨D,h1,_⟩:=h
 exact h1.lt
def RSTab(w:World)(B r n:Nat)(g:Int→Int)(left:Int→Bool)(cnt:Nat):Prop:=
 ∃(D:D0) (lf:Lit→Bool),w.ranges Tryz.prog 3 (plainElem Tryz.prog 3) B r n D lf cnt∧(∀i,(Lit.int .i64 i).wf=true→D.atKey (.int .i64 i) (.lit (.int .i64 0))= .lit (.int .i64 (g i)))∧∀i,left i=lf (.int .i64 i)
theorem RSTab.left_eq{w:World}{B r n:Nat}{f:Int→Int}{left:Int→Bool}{cnt:Nat}(h:RSTab w B r n f left cnt):w.rangeLeft B r=cnt:=by
 obtain⟨D,lf,h1,_⟩:=h
 exact h1.left_eq
end Legs
namespace BalApp
open Bals Triples
theorem info2:(Tryz.prog.info? 146).map (fun i=>(i.zero,i.size,i.bytes))=some (some (.agg #[.int .i64 0,.int .i64 0,.int .i64 0]),3,24):=by kernel_rfl
theorem wp_app(u:World){ops:Array Oper}{rest:List Oper}{o:Oper}{a:Act}{Q:Exit→Act→World→Prop}(hgd:o.guard=none)(s x:Operand)
  (ho:o.op= .call {callee:= .builtin .append,args:= #[s,x],argTypes:= #[36,36]})(base g n cap:Nat)(ps:List T3)(vb:Nat)(p q r:Int)
  (hs:a.eval s= .slice (some ⟨g,0,none⟩) n cap)(hx:a.eval x= .slice (some ⟨vb,0,none⟩) 1 1)(hown:Own3 146 u base g n cap ps)(hv:Holds3 u vb 0 (p,q,r))(hn:n≤1048576)(hb:base≤u.heap.size)
  (h:∀g' c' w',Own3 146 w' base g' (n+1) c' (ps++[(p,q,r)])→u.grownBy w' (some g)→(g'=g∨g'=u.heap.size)→wpList Tryz.prog ops Q rest (a.put o.dst (.slice (some ⟨g',0,none⟩) (n+1) c')) w'):wpList Tryz.prog ops Q (o::rest) a u:=by
 obtain⟨i0,hi,hz0,hz1,hz2⟩:=info_parts info2
 have hat:At3 u vb [(p,q,r)]:=by
  intro i hi
  obtain rfl:i=0:=by simpa using hi
  exact hv
 refine wpList_append_own_at u hgd s x 36 ho base 146 i0 (.agg #[.int .i64 0,.int .i64 0,.int .i64 0]) 3 24 Tryz.underlying36 hi hz0 hz1 hz2 rfl (by decide) _ n _ hs hown ⟨vb,0,none⟩ 1 1 (flat3 [(p,q,r)]) hx rfl hat.cells (fun u hu=>flat3_one u _ hu) (by unfold maxLen;omega) (by omega) hb ?_
 intro v' w' own' gr' nil' loc'
 obtain⟨g',c',rfl,o'⟩:=own3_of_row (n':=n+1) (ps:=ps++[(p,q,r)]) own' rfl (by rw[flat3_append]) (by rw[nil'];simp)
 exact h g' c' w' o' gr' (by simpa[Value.ownBlock] using loc')
end BalApp
namespace LotApp
open Tup5
theorem info2:(Tryz.prog.info? 148).map (fun i=>(i.zero,i.size,i.bytes))=some (some (.agg #[.int .i64 0,.int .i64 0,.int .i64 0,.int .i64 0,.int .i64 0]),5,40):=by kernel_rfl
theorem wp_app(u:World){ops:Array Oper}{rest:List Oper}{o:Oper}{a:Act}{Q:Exit→Act→World→Prop}(hgd:o.guard=none)(s x:Operand)
  (ho:o.op= .call {callee:= .builtin .append,args:= #[s,x],argTypes:= #[37,37]})(base g n cap:Nat)(ps:List T5)(vb:Nat)(x0 x1 x2 x3 x4:Int)
  (hs:a.eval s= .slice (some ⟨g,0,none⟩) n cap)(hx:a.eval x= .slice (some ⟨vb,0,none⟩) 1 1)(hown:Own5 148 u base g n cap ps)(hv:Holds5 u vb 0 (x0,x1,x2,x3,x4))(hn:n≤1048576)(hb:base≤u.heap.size)
  (h:∀g' c' w',Own5 148 w' base g' (n+1) c' (ps++[(x0,x1,x2,x3,x4)])→u.grownBy w' (some g)→(g'=g∨g'=u.heap.size)→wpList Tryz.prog ops Q rest (a.put o.dst (.slice (some ⟨g',0,none⟩) (n+1) c')) w'):wpList Tryz.prog ops Q (o::rest) a u:=by
 obtain⟨i0,hi,hz0,hz1,hz2⟩:=info_parts info2
 have hat:At5 u vb [(x0,x1,x2,x3,x4)]:=by
  intro i hi
  obtain rfl:i=0:=by simpa using hi
  exact hv
 refine wpList_append_own_at u hgd s x 37 ho base 148 i0 (.agg #[.int .i64 0,.int .i64 0,.int .i64 0,.int .i64 0,.int .i64 0]) 5 40 Tryz.underlying37 hi hz0 hz1 hz2 rfl (by decide) _ n _ hs hown ⟨vb,0,none⟩ 1 1 (flat5 [(x0,x1,x2,x3,x4)]) hx rfl hat.cells (fun u hu=>flat5_one u _ hu) (by unfold maxLen;omega) (by omega) hb ?_
 intro v' w' own' gr' nil' loc'
 obtain⟨g',c',rfl,o'⟩:=own5_of_row (n':=n+1) (ps:=ps++[(x0,x1,x2,x3,x4)]) own' rfl (by rw[flat5_append]) (by rw[nil'];simp)
 exact h g' c' w' o' gr' (by simpa[Value.ownBlock] using loc')
end LotApp
namespace SSplit
open Tup5 Lots Takes SOk5 Quieter
theorem sSplit(w:World)(g n cap:Nat)(ps:List T5)(a i:Int)(hl:ps.length=n)(h20:n≤100000)(hg:g<w.heap.size)(h:At5 w g ps):
  Calls Tryz.prog 128 #[.slice (some ⟨g,0,none⟩) n cap,.int .i64 a,.int .i64 i] w fun e w'=>∃g1 c1 g2 c2,e= .returned (.tuple #[.slice (some ⟨g1,0,none⟩) (ownL ps a i).length c1,.slice (some ⟨g2,0,none⟩) (restL ps a i).length c2])∧Own5 148 w' w.heap.size g1 (ownL ps a i).length c1 (ownL ps a i)∧Own5 148 w' w.heap.size g2 (restL ps a i).length c2 (restL ps a i)∧g1≠g2∧Below w.heap.size w w':=by
 have H:=zh h
 clear h
 have O1:=zh ((lit50 148 w w.heap.size (Nat.le_refl _)).alloc (.cells #[] 148))
 have O2:=zh (lit50 148 (w.alloc (.cells #[] 148)) w.heap.size (by simp))
 have B0:=zh (show Below w.heap.size w ((w.alloc (.cells #[] 148)).alloc (.cells #[] 148)) from((Below.refl _ _).alloc (Nat.le_refl _) _).alloc (by simp) _)
 simp only[World.size_alloc] at O2
 go_enter Tryz.func128,Tryz.ntmps128
 go_wp2
 generalize (w.alloc (.cells #[] 148)).alloc (.cells #[] 148)=w0 at *
 go_loopw [8,9,10] (fun l m j wr=>∃(p q:List T5) (g1 c1 g2 c2 k:Nat),l= .slice (some ⟨g1,0,none⟩) p.length c1∧m= .slice (some ⟨g2,0,none⟩) q.length c2∧j= .int .i64 k∧k≤n∧p.length≤k∧q.length≤k∧g1≠g2∧Hid (p=ownL (ps.take k) a i)∧Hid (q=restL (ps.take k) a i)∧Hid (Own5 148 wr w.heap.size g1 p.length c1 p)∧Hid (Own5 148 wr w.heap.size g2 q.length c2 q)∧Hid (Below w.heap.size w wr)) (fun _ _ j _=>n-(intOf j).toNat)
 case atStart=>exact⟨[],[],w.heap.size,0,w.heap.size+1,0,0,rfl,rfl,rfl,by omega,by simp,by simp,by omega,zh rfl,zh rfl,O1,O2,B0⟩
 case round=>
  clear O1 O2 B0
  obtain⟨p,q,g1,c1,g2,c2,k,rfl,rfl,rfl,hk,pl,ql,g12,HP,HQ,H1,H2,HB⟩:=hrel
  have bs:=(zu HB).size
  have gl1:=(zu H1).lt.2
  have gl2:=(zu H2).lt.2
  by_cases t:k<n
  ·obtain⟨e0,e1,e2,e3,e4⟩:=(zu H).below (zu HB) hg k (by omega)
   have NP:=zh (own_next (ps:=ps) (k:=k) (by omega) a i)
   have NQ:=zh (rest_next (ps:=ps) (k:=k) (by omega) a i)
   rw[←zu HP] at NP
   rw[←zu HQ] at NQ
   have EQ:el5 ps k=((el5 ps k).1,(el5 ps k).2.1,(el5 ps k).2.2.1,(el5 ps k).2.2.2.1,(el5 ps k).2.2.2.2):=rfl
   rw[EQ] at NP NQ
   clear EQ HP HQ
   generalize (el5 ps k).1=x0 at *
   generalize (el5 ps k).2.1=x1 at *
   generalize (el5 ps k).2.2.1=x2 at *
   generalize (el5 ps k).2.2.2.1=x3 at *
   generalize (el5 ps k).2.2.2.2=x4 at *
   have V5:=zh (show Holds5 (wr.alloc (.cells #[.int .i64 x0,.int .i64 x1,.int .i64 x2,.int .i64 x3,.int .i64 x4] 148)) wr.heap.size 0 (x0,x1,x2,x3,x4) from by unfold Holds5;simp)
   by_cases own:x0=a∧x1=i
   ·have NP1:Hid (ownL (ps.take (k+1)) a i=p++[(x0,x1,x2,x3,x4)]):=zh (by rw[zu NP,if_pos own])
    have NQ1:Hid (restL (ps.take (k+1)) a i=q):=zh (by rw[zu NQ,if_pos own,List.append_nil])
    clear NP NQ
    obtain⟨rfl,rfl⟩:=own
    go_wp2_with (first|(at_builtin;refine LotApp.wp_app _ rfl _ _ rfl w.heap.size g1 p.length c1 p wr.heap.size x0 x1 x2 x3 x4 rfl rfl ((zu H1).alloc _) (zu V5) (by omega) (by simp;omega) ?_)|go_in)
    intro g5 c5 w5 o5 gr5 loc5
    have O5:=zh o5
    have K5:=zh (((zu H2).alloc (.cells #[.int .i64 x0,.int .i64 x1,.int .i64 x2,.int .i64 x3,.int .i64 x4] 148)).kept gr5 (by simp;omega))
    have B5:=zh (((zu HB).alloc bs (.cells #[.int .i64 x0,.int .i64 x1,.int .i64 x2,.int .i64 x3,.int .i64 x4] 148)).grown gr5 (by simp;omega) (fun j hj=>by cases hj;exact(zu H1).lt.1))
    have g5B:g5≠g2:=by
     try simp at loc5
     omega
    clear o5 gr5 loc5 V5
    go_wp2
    go_roundw
    case rel=>exact⟨p++[(x0,x1,x2,x3,x4)],q,g5,c5,g2,c2,k+1,by rw[show(p++[(x0,x1,x2,x3,x4)]).length=p.length+1 by simp],rfl,by go_num,by omega,by simp;omega,by omega,g5B,zh (zu NP1).symm,zh (zu NQ1).symm,zh (by rw[show(p++[(x0,x1,x2,x3,x4)]).length=p.length+1 by simp];exact zu O5),K5,B5⟩
    case measure=>simp[intOf];omega
   ·have NP1:Hid (ownL (ps.take (k+1)) a i=p):=zh (by rw[zu NP,if_neg own,List.append_nil])
    have NQ1:Hid (restL (ps.take (k+1)) a i=q++[(x0,x1,x2,x3,x4)]):=zh (by rw[zu NQ,if_neg own])
    clear NP NQ
    rcases(show x0≠a∨(x0=a∧x1≠i) by omega) with o2|⟨rfl,o2⟩
    ·have ob:(x0==a)=false:=by simpa using o2
     go_wp2_with (first|(at_builtin;refine LotApp.wp_app _ rfl _ _ rfl w.heap.size g2 q.length c2 q wr.heap.size x0 x1 x2 x3 x4 rfl rfl ((zu H2).alloc _) (zu V5) (by omega) (by simp;omega) ?_)|go_in)
     intro g5 c5 w5 o5 gr5 loc5
     have O5:=zh o5
     have K5:=zh (((zu H1).alloc (.cells #[.int .i64 x0,.int .i64 x1,.int .i64 x2,.int .i64 x3,.int .i64 x4] 148)).kept gr5 (by simp;omega))
     have B5:=zh (((zu HB).alloc bs (.cells #[.int .i64 x0,.int .i64 x1,.int .i64 x2,.int .i64 x3,.int .i64 x4] 148)).grown gr5 (by simp;omega) (fun j hj=>by cases hj;exact(zu H2).lt.1))
     have g5B:g5≠g1:=by
      try simp at loc5
      omega
     clear o5 gr5 loc5 V5
     go_wp2
     go_roundw
     case rel=>exact⟨p,q++[(x0,x1,x2,x3,x4)],g1,c1,g5,c5,k+1,rfl,by rw[show(q++[(x0,x1,x2,x3,x4)]).length=q.length+1 by simp],by go_num,by omega,by omega,by simp;omega,fun e=>g5B e.symm,zh (zu NP1).symm,zh (zu NQ1).symm,K5,zh (by rw[show(q++[(x0,x1,x2,x3,x4)]).length=q.length+1 by simp];exact zu O5),B5⟩
     case measure=>simp[intOf];omega
    ·have ob:(x1==i)=false:=by simpa using o2
     go_wp2_with (first|(at_builtin;refine LotApp.wp_app _ rfl _ _ rfl w.heap.size g2 q.length c2 q wr.heap.size x0 x1 x2 x3 x4 rfl rfl ((zu H2).alloc _) (zu V5) (by omega) (by simp;omega) ?_)|go_in)
     intro g5 c5 w5 o5 gr5 loc5
     have O5:=zh o5
     have K5:=zh (((zu H1).alloc (.cells #[.int .i64 x0,.int .i64 x1,.int .i64 x2,.int .i64 x3,.int .i64 x4] 148)).kept gr5 (by simp;omega))
     have B5:=zh (((zu HB).alloc bs (.cells #[.int .i64 x0,.int .i64 x1,.int .i64 x2,.int .i64 x3,.int .i64 x4] 148)).grown gr5 (by simp;omega) (fun j hj=>by cases hj;exact(zu H2).lt.1))
     have g5B:g5≠g1:=by
      try simp at loc5
      omega
     clear o5 gr5 loc5 V5
     go_wp2
     go_roundw
     case rel=>exact⟨p,q++[(x0,x1,x2,x3,x4)],g1,c1,g5,c5,k+1,rfl,by rw[show(q++[(x0,x1,x2,x3,x4)]).length=q.length+1 by simp],by go_num,by omega,by omega,by simp;omega,fun e=>g5B e.symm,zh (zu NP1).symm,zh (zu NQ1).symm,K5,zh (by rw[show(q++[(x0,x1,x2,x3,x4)]).length=q.length+1 by simp];exact zu O5),B5⟩
     case measure=>simp[intOf];omega
  ·obtain rfl:k=n:=by omega
   have EP:=zh (show p=ownL ps a i by rw[zu HP,List.take_of_length_le (by omega)])
   have EQ:=zh (show q=restL ps a i by rw[zu HQ,List.take_of_length_le (by omega)])
   clear HP HQ
   go_wp2
   go_ret2
   rw[←zu EP,←zu EQ]
   exact⟨g1,c1,g2,c2,rfl,zu H1,zu H2,g12,zu HB⟩
theorem take_sum{ps:List T5}(h:∀p∈ps,Pos p)(k:Nat):0≤sumQ (ps.take k)∧sumQ (ps.take k)≤sumQ ps∧0≤sumC (ps.take k)∧sumC (ps.take k)≤sumC ps:=by
 have e:ps=ps.take k++ps.drop k:=(List.take_append_drop k ps).symm
 have p1:=sum_pos (ps.take k) (fun p hp=>h p (List.mem_of_mem_take hp))
 have p2:=sum_pos (ps.drop k) (fun p hp=>h p (List.mem_of_mem_drop hp))
 have e1:=sumQ_append (ps.take k) (ps.drop k)
 have e2:=sumC_append (ps.take k) (ps.drop k)
 rw[←e] at e1 e2
 omega
theorem sQty(w:World)(g n cap:Nat)(ps:List T5)(hl:ps.length=n)(h20:n≤1048576)(h:At5 w g ps)(hp:∀p∈ps,Pos p)(hs:sumQ ps≤1000000000000000):
  Calls Tryz.prog 129 #[.slice (some ⟨g,0,none⟩) n cap] w fun e w'=>e= .returned (.int .i64 (sumQ ps))∧Below w.heap.size w w':=by
 have HP:=zh hp
 clear hp
 go_enter Tryz.func129,Tryz.ntmps129
 go_wp2
 go_loopw [3,4] (fun q j wr=>∃(k:Nat) (s:Int),q= .int .i64 s∧j= .int .i64 k∧k≤n∧At5 wr g ps∧Hid (s=sumQ (ps.take k))∧Hid (Below w.heap.size w wr)) (fun _ j _=>n-(intOf j).toNat)
 case atStart=>exact⟨0,0,rfl,rfl,by omega,h,zh rfl,zh (Below.refl _ _)⟩
 case round=>
  clear h
  obtain⟨k,s,rfl,rfl,hk,h,HS,HB⟩:=hrel
  have ts:=take_sum (zu HP) k
  have s0:0≤s:=by rw[zu HS];omega
  by_cases t:k<n
  ·obtain⟨e0,e1,e2,e3,e4⟩:=h k (by omega)
   have ts1:=take_sum (zu HP) (k+1)
   have NX:=zh (sumQ_next (ps:=ps) (k:=k) (by omega))
   rw[←zu HS] at NX
   have xp:=(zu HP) _ (getD_mem (ps:=ps) (i:=k) (by omega))
   unfold Pos at xp
   have b1:s+(el5 ps k).2.2.2.1≤1000000000000000:=by rw[←zu NX];omega
   have HA:=zh h
   clear h HS ts ts1
   obtain⟨⟨x31,x32⟩,x41,x42⟩:=xp
   generalize (el5 ps k).1=x0 at *
   generalize (el5 ps k).2.1=x1 at *
   generalize (el5 ps k).2.2.1=x2 at *
   generalize (el5 ps k).2.2.2.1=x3 at *
   generalize (el5 ps k).2.2.2.2=x4 at *
   have wS:IntKind.i64.wrap (s+x3)=s+x3:=by rw[IntKind.wrap_i64];omega
   go_wp2
   go_roundw
   case rel=>exact⟨k+1,s+x3,rfl,by go_num,by omega,zu HA,zh (zu NX).symm,HB⟩
   case measure=>simp[intOf];omega
  ·obtain rfl:k=n:=by omega
   have E:=zh (show s=sumQ ps by rw[zu HS,List.take_of_length_le (by omega)])
   clear h HS ts
   go_wp2
   go_ret
   exact⟨by rw[←zu E];rfl,zu HB⟩
end SSplit
namespace SSeal11
open SBytes SPut11 SPuts11
open ByteH (Own At)
theorem chkB_in(xs:List Int):0≤chkB xs∧chkB xs≤4294967295:=by
 have:=chk_in xs xs.length
 unfold chkB
 omega
def four(n:Int):List Int:=[n%256,n/256%256,n/65536%256,n/16777216%256]
def sealB(xs:List Int):List Int:=if xs.length≤9000 then numB xs.length++xs++four (chkB xs) else[]
theorem lit_four(w:World)(a b c d:Int):AtO (w.alloc (.cells #[.int .u8 a,.int .u8 b,.int .u8 c,.int .u8 d] 5)) w.heap.size 0 [a,b,c,d]:=by
 intro i hi
 have:i=0∨i=1∨i=2∨i=3:=by simp at hi;omega
 rcases this with rfl|rfl|rfl|rfl<;>simp
theorem sSeal(w:World)(gl cl:Nat)(xs:List Int)(h20:xs.length≤1048576)(hg:gl<w.heap.size)(hr:AtB w gl xs):
  Calls Tryz.prog 24 #[.slice (some ⟨gl,0,none⟩) xs.length cl] w fun e w'=>∃g c,e= .returned (.tuple #[.slice (some ⟨g,0,none⟩) (sealB xs).length c,.bool (decide (xs.length≤9000))])∧Own w' w.heap.size g (sealB xs).length c (sealB xs)∧Below w.heap.size w w':=by
 by_cases h0:xs.length≤9000
 case neg=>
  have e:sealB xs=[]:=if_neg h0
  rw[e]
  have O0:=zh (lit0 w w.heap.size (Nat.le_refl _) rfl)
  have B0:=zh (one_more w (.cells #[] 5))
  have h1:(9000:Int)<xs.length:=by omega
  have D:=zh (show decide (xs.length≤9000)=false from by simp;omega)
  rw[zu D]
  clear e h0 hr
  go_enter Tryz.func24,Tryz.ntmps24
  go_wp2
  go_ret2
  exact⟨_,0,rfl,zu O0,zu B0⟩
 have S:=zh (show numB xs.length++xs++four (chkB xs)=sealB xs from(if_pos h0).symm)
 have D:=zh (show decide (xs.length≤9000)=true from by simp;omega)
 rw[zu D]
 have CI:=zh (show 0≤65536*(chk xs xs.length).2+(chk xs xs.length).1∧65536*(chk xs xs.length).2+(chk xs xs.length).1≤4294967295 from chkB_in xs)
 have R:=zh hr
 have HG:=zh hg
 have nine:=numB_nine (x:=xs.length) (by omega)
 have h1:¬(9000:Int)<xs.length:=by omega
 clear hr hg D
 go_enter Tryz.func24,Tryz.ntmps24
 go_wp2_with fail
 refine(sCheck _ gl cl xs h20 (zu R)).mono ?_
 rintro e u ⟨rfl,rfl⟩
 have S1:=zh (show numB xs.length++xs++four (65536*(chk xs xs.length).2+(chk xs xs.length).1)=sealB xs from zu S)
 clear S
 generalize 65536*(chk xs xs.length).2+(chk xs xs.length).1=n at *
 clear h1
 go_wp2_with fail
 refine(sPutNum _ xs.length (by omega)).mono ?_
 rintro e u1 ⟨g1,c1,rfl,o1,b1⟩
 have O1:=zh o1
 have B1:=zh b1
 have us:=b1.size
 have og:=o1.lt
 clear o1 b1
 go_wp2_with (first|(at_builtin;refine wp_catB _ rfl _ _ rfl u.heap.size g1 (numB xs.length).length c1 xs.length (numB xs.length) xs gl 0 cl rfl rfl (zu O1) rfl (AtO.of (fun i hi=>((AtB.below (zu R) (zu B1) (zu HG)) i hi).1)) (by omega) (by omega) ?_)|go_in)
 intro g2 c2 w2 o2 gr2 loc2
 have O2:=zh o2
 have B2:=zh ((zu B1).grown gr2 (by omega) (fun j hj=>by cases hj;exact og.1))
 have og2:=o2.lt
 have us2:=gr2.size
 clear o2 gr2 loc2
 obtain⟨n0,n1⟩:=zu CI
 have N:=zh (And.intro n0 n1)
 have m9:(numB xs.length).length+xs.length≤9009:=by omega
 generalize hm:(numB xs.length).length+xs.length=m at *
 have HM:=zh hm
 clear hm n0 n1
 go_wp2_with (first|(at_builtin;refine wp_catB _ rfl _ _ rfl u.heap.size g2 m c2 4 (numB xs.length++xs) _ w2.heap.size 0 4 rfl rfl (own_alloc (zu O2) _) (by rfl) (lit_four _ _ _ _ _) (by omega) (by simp;omega) ?_)|go_in)
 intro g3 c3 w3 o3 gr3 loc3
 have O3:=zh o3
 have B3:=zh (((zu B2).alloc (by omega) (.cells #[.int .u8 (n%256),.int .u8 (n/256%256),.int .u8 (n/65536%256),.int .u8 (n/16777216%256)] 5)).grown gr3 (by simp;omega) (fun j hj=>by cases hj;exact og2.1))
 clear o3 gr3 loc3
 go_wp2
 go_ret2
 have e:=zu S1
 have l:(sealB xs).length=m+4:=by rw[←e,←zu HM];simp[four];omega
 refine⟨g3,c3,by rw[l];rfl,?_,zu B3⟩
 rw[l,←e]
 have:=zu O3
 simpa[four,List.append_assoc] using this
end SSeal11
namespace Fil14
abbrev TF:Type:=Int×ByteArray×ByteArray
abbrev elF(ps:List TF)(i:Nat):TF:=ps.getD i (0,ByteArray.empty,ByteArray.empty)
theorem zh{p:Prop}(h:p):Hid p:=h
theorem zu{p:Prop}(h:Hid p):p:=h
def flatF(ps:List TF):List Value:=ps.flatMap fun p=>[.int .i64 p.1,.string p.2.1,.string p.2.2]
theorem flatF_cons(p:TF)(ps:List TF):flatF (p::ps)= .int .i64 p.1:: .string p.2.1:: .string p.2.2::flatF ps:=rfl
theorem flatF_append(ps qs:List TF):flatF (ps++qs)=flatF ps++flatF qs:=by simp[flatF,List.flatMap_append]
theorem flatF_len(ps:List TF):(flatF ps).length=ps.length*3:=by
 induction ps with
 |nil=>rfl
 |cons p ps ih=>rw[flatF_cons];simp[ih];omega
theorem flatF_get(ps:List TF):∀i,i<ps.length→(flatF ps)[i*3]?=some (.int .i64 (elF ps i).1)∧(flatF ps)[i*3+1]?=some (.string (elF ps i).2.1)∧(flatF ps)[i*3+2]?=some (.string (elF ps i).2.2):=by
 induction ps with
 |nil=>intro i h;simp at h
 |cons p ps ih=>
  intro i h
  cases i with
  |zero=>rw[flatF_cons];simp
  |succ i=>
   have:=ih i (by simpa using h)
   rw[flatF_cons,show(i+1)*3=i*3+3 by omega,show i*3+3+1=(i*3+1)+3 by omega,show i*3+3+2=(i*3+2)+3 by omega]
   simpa using this
theorem flatF_one(u:Value)(ps:List TF)(h:u∈flatF ps):u.oneCell'=true:=by
 induction ps with
 |nil=>simp[flatF] at h
 |cons p ps ih=>
  rw[flatF_cons] at h
  simp only[List.mem_cons] at h
  rcases h with rfl|rfl|rfl|h
  ·rfl
  ·rfl
  ·rfl
  ·exact ih h
theorem flatF_set0(ps:List TF):∀(i:Nat) (x:Int),(flatF ps).set (i*3) (.int .i64 x)=flatF (ps.modify i fun p=>(x,p.2)):=by
 induction ps with
 |nil=>intro i x;simp[flatF]
 |cons p ps ih=>
  intro i x
  cases i with
  |zero=>simp[flatF_cons]
  |succ i=>rw[flatF_cons,show(i+1)*3=i*3+1+1+1 by omega,List.set_cons_succ,List.set_cons_succ,List.set_cons_succ,ih i x,List.modify_succ_cons,flatF_cons]
theorem flatF_set(ps:List TF):∀(i:Nat) (x:ByteArray),(flatF ps).set (i*3+1) (.string x)=flatF (ps.modify i fun p=>(p.1,x,p.2.2))∧(flatF ps).set (i*3+2) (.string x)=flatF (ps.modify i fun p=>(p.1,p.2.1,x)):=by
 induction ps with
 |nil=>intro i x;simp[flatF]
 |cons p ps ih=>
  intro i x
  cases i with
  |zero=>simp[flatF_cons]
  |succ i=>
   obtain⟨b,c⟩:=ih i x
   refine⟨?_,?_⟩
   ·rw[flatF_cons,show(i+1)*3+1=i*3+1+1+1+1 by omega,List.set_cons_succ,List.set_cons_succ,List.set_cons_succ,b,List.modify_succ_cons,flatF_cons]
   ·rw[flatF_cons,show(i+1)*3+2=i*3+2+1+1+1 by omega,List.set_cons_succ,List.set_cons_succ,List.set_cons_succ,c,List.modify_succ_cons,flatF_cons]
def HoldsF(w:World)(g o:Nat)(p:TF):Prop:=w.cell? ⟨g,o,none⟩=some (.int .i64 p.1)∧w.cell? ⟨g,o+1,none⟩=some (.string p.2.1)∧w.cell? ⟨g,o+2,none⟩=some (.string p.2.2)
def AtF(w:World)(g:Nat)(ps:List TF):Prop:=∀i,i<ps.length→HoldsF w g (i*3) (elF ps i)
def ReadsF(w:World)(a:Option Addr)(ps:List TF):Prop:=ps.length=0∨∃b off,a=some ⟨b,off,none⟩∧b<w.heap.size∧∀i,i<ps.length→HoldsF w b (off+i*3) (elF ps i)
def OwnF(e:TypeId)(w:World)(base g n cap:Nat)(ps:List TF):Prop:=w.ownsRow base e 3 (.slice (some ⟨g,0,none⟩) n cap) n (flatF ps)
section
variable {e:TypeId} {w w':World} {base base' g n cap:Nat} {ps:List TF}
theorem HoldsF.below{B o:Nat}{p:TF}(h:HoldsF w g o p)(k:Below B w w')(hg:g<B):HoldsF w' g o p:=
 ⟨(k.cell (p:=⟨g,o,none⟩) hg).trans h.1,(k.cell (p:=⟨g,o+1,none⟩) hg).trans h.2.1,(k.cell (p:=⟨g,o+2,none⟩) hg).trans h.2.2⟩
theorem OwnF.len(h:OwnF e w base g n cap ps):ps.length=n:=by
 have:=h.1
 rw[flatF_len] at this
 omega
theorem OwnF.lt(h:OwnF e w base g n cap ps):base≤g∧g<w.heap.size:=World.ownsRow.lt h g rfl
theorem OwnF.at(h:OwnF e w base g n cap ps):AtF w g ps:=by
 intro i hi
 have hl:=h.len
 obtain⟨f0,f1,f2⟩:=flatF_get ps i hi
 exact⟨(World.ownsRow.cellAt h (i*3) (by omega)).trans f0,(World.ownsRow.cellAt h (i*3+1) (by omega)).trans f1,(World.ownsRow.cellAt h (i*3+2) (by omega)).trans f2⟩
theorem OwnF.free(h:OwnF e w base g n cap ps)(i:Nat):w.frozen? ⟨g,i,none⟩=false:=World.ownsRow.frozenAt h i
theorem OwnF.rebase(h:OwnF e w base g n cap ps)(hb:base'≤g):OwnF e w base' g n cap ps:=by
 refine⟨h.1,?_⟩
 rcases h.2 with⟨h1,_⟩|⟨g',c,cur,h1,h2,h3⟩
 ·simp at h1
 ·obtain⟨e,_⟩:g=g'∧cap=c:=by simpa using h1
  subst e
  exact Or.inr ⟨g,c,cur,h1,hb,h3⟩
theorem OwnF.kept{row:Option Nat}(h:OwnF e w base g n cap ps)(k:w.grownBy w' row)(hne:some g≠row):OwnF e w' base g n cap ps:=
 World.ownsRow.kept h k (Or.inr hne)
theorem OwnF.below{B:Nat}(h:OwnF e w base g n cap ps)(k:Below B w w')(hg:g<B):OwnF e w' base g n cap ps:=by
 refine⟨h.1,?_⟩
 rcases h.2 with⟨h1,_⟩|⟨g',c,cur,h1,h2,h3,h4⟩
 ·simp at h1
 ·obtain⟨e,_⟩:g=g'∧cap=c:=by simpa using h1
  subst e
  exact Or.inr ⟨g,c,cur,h1,h2,by rw[k.block g hg];exact h3,h4⟩
theorem OwnF.alloc(h:OwnF e w base g n cap ps)(o:Obj):OwnF e (w.alloc o) base g n cap ps:=World.ownsRow.alloc h o
theorem OwnF.drew(h:OwnF e w base g n cap ps):OwnF e w.drew base g n cap ps:=h
theorem AtF.below{B:Nat}(h:AtF w g ps)(k:Below B w w')(hg:g<B):AtF w' g ps:=fun i hi=>(h i hi).below k hg
theorem ReadsF.below{a:Option Addr}(h:ReadsF w a ps)(k:Below w.heap.size w w'):ReadsF w' a ps:=by
 rcases h with h|⟨b,off,rfl,hb,hc⟩
 ·exact Or.inl h
 ·exact Or.inr ⟨b,off,rfl,Nat.lt_of_lt_of_le hb k.size,fun i hi=>(hc i hi).below k hb⟩
theorem OwnF.set0(h:OwnF e w base g n cap ps)(i:Nat)(x:Int):
  OwnF e (w.setCell ⟨g,i*3,none⟩ (.int .i64 x)) base g n cap (ps.modify i fun p=>(x,p.2))∧w.grownBy (w.setCell ⟨g,i*3,none⟩ (.int .i64 x)) (some g):=by
 have:=World.ownsRow.stored h (i*3) (.int .i64 x)
 refine⟨?_,this.2⟩
 unfold OwnF
 rw[←flatF_set0 ps i x]
 exact this.1
theorem OwnF.set1(h:OwnF e w base g n cap ps)(i:Nat)(x:ByteArray):
  OwnF e (w.setCell ⟨g,i*3+1,none⟩ (.string x)) base g n cap (ps.modify i fun p=>(p.1,x,p.2.2))∧w.grownBy (w.setCell ⟨g,i*3+1,none⟩ (.string x)) (some g):=by
 have:=World.ownsRow.stored h (i*3+1) (.string x)
 refine⟨?_,this.2⟩
 unfold OwnF
 rw[←(flatF_set ps i x).1]
 exact this.1
theorem OwnF.set2(h:OwnF e w base g n cap ps)(i:Nat)(x:ByteArray):
  OwnF e (w.setCell ⟨g,i*3+2,none⟩ (.string x)) base g n cap (ps.modify i fun p=>(p.1,p.2.1,x))∧w.grownBy (w.setCell ⟨g,i*3+2,none⟩ (.string x)) (some g):=by
 have:=World.ownsRow.stored h (i*3+2) (.string x)
 refine⟨?_,this.2⟩
 unfold OwnF
 rw[←(flatF_set ps i x).2]
 exact this.1
end
theorem grownBy_below{w w':World}(h:w.grownBy w' none):Below w.heap.size w w':=⟨h.os,h.tape,h.output,h.size,fun k hk=>h.block k hk (by simp)⟩
theorem next{a b c:World}(h:Below a.heap.size a b)(k:Below b.heap.size b c):Below a.heap.size a c:=h.trans (k.mono h.size)
theorem litF0(e:TypeId)(w:World)(base:Nat)(hb:base≤w.heap.size):OwnF e (w.alloc (.cells #[] e)) base w.heap.size 0 0 []:=World.ownsRow_lit w #[] 0 hb (by decide) rfl
theorem litF1(e:TypeId)(w:World)(base:Nat)(x:Int)(y z:ByteArray)(hb:base≤w.heap.size):OwnF e (w.alloc (.cells #[.int .i64 x,.string y,.string z] e)) base w.heap.size 1 1 [(x,y,z)]:=World.ownsRow_lit w #[.int .i64 x,.string y,.string z] 1 hb (by decide) rfl
theorem AtF.cells{w:World}{g:Nat}{ps:List TF}(h:AtF w g ps):∀(j:Nat) (u:Value),(flatF ps)[j]?=some u→w.cell? ((⟨g,0,none⟩:Addr).add j)=some u:=by
 intro j u hj
 have hl:j<ps.length*3:=by
  have:=(List.getElem?_eq_some_iff.1 hj).1
  rw[flatF_len] at this
  exact this
 rw[Addr.add_lit,Nat.zero_add]
 obtain⟨c0,c1,c2⟩:=h (j/3) (by omega)
 obtain⟨f0,f1,f2⟩:=flatF_get ps (j/3) (by omega)
 rcases(show j%3=0∨j%3=1∨j%3=2 by omega) with e|e|e
 ·rw[show j/3*3=j by omega] at c0 f0
  rw[c0,←hj,f0]
 ·rw[show j/3*3+1=j by omega] at c1 f1
  rw[c1,←hj,f1]
 ·rw[show j/3*3+2=j by omega] at c2 f2
  rw[c2,←hj,f2]
theorem grown_trans{a b c:World}{row:Option Nat}(h:a.grownBy b row)(k:b.grownBy c row):a.grownBy c row:=
 ⟨k.os.trans h.os,k.tape.trans h.tape,k.output.trans h.output,Nat.le_trans h.size k.size,fun j hj hne=>(k.block j (Nat.lt_of_lt_of_le hj h.size) hne).trans (h.block j hj hne)⟩
end Fil14
namespace OpensF14
open Fil14
def FitF(ps:List TF):Prop:=∀p∈ps,p.2.1.size≤9223372036854775807∧p.2.2.size≤9223372036854775807
theorem open_files{H:Type}{enc:TypeId×Value→H}{P:Program}{w:World}{base:Nat}{spare:Nat→Bool}{held:Bool}{t e i s:TypeId}{f0 f1 f2:Field}{fuel:Nat}{a:Option Addr}{len cap:Nat}{x:DataW H×List MemPlace}
  (ht:P.underlying t=some (.slice e))(he:P.underlying e=some (.struct #[f0,f1,f2]))
  (hc:(P.cellsOf e==3&&P.cellsOf i==1&&f0.type==i&&f1.type==s&&f2.type==s&&P.cellsOf s==1&&f0.offset==0&&f1.offset==1&&f2.offset==2)=true)(hi:P.underlying i=some (.int .i64))(hs:P.underlying s=some .string)
  (h:DataW.trod enc P w base spare held fuel t (Value.slice a len cap).cells.toList=some x):∃ps:List TF,ps.length=len∧len≤9223372036854775807∧ReadsF w a ps∧FitF ps:=by
 simp at hc
 obtain⟨⟨⟨⟨⟨⟨⟨⟨ce,ci⟩,e0⟩,e1⟩,e2⟩,cs⟩,o0⟩,o1⟩,o2⟩:=hc
 rcases Deep.open_slice ht h with⟨hcs,_⟩|⟨b,l,c,m,n,D,Pl,hcs,_,hlc,hm,hmm,_,hx⟩
 ·simp[Value.cells] at hcs
  obtain⟨rfl,rfl,rfl⟩:=hcs
  exact⟨[],rfl,by omega,.inl rfl,fun p hp=>by simp at hp⟩
 ·simp[Value.cells] at hcs
  obtain⟨rfl,rfl,rfl⟩:=hcs
  have hlm:len≤m:=by rw[hmm];split<;>omega
  have each:∀j,j<len→∃p:TF,w.cell? (b.add (j*3))=some (.int .i64 p.1)∧w.cell? (b.add (j*3+1))=some (.string p.2.1)∧w.cell? (b.add (j*3+2))=some (.string p.2.2)∧(p.2.1.size≤9223372036854775807∧p.2.2.size≤9223372036854775807):=by
   intro j hj
   obtain⟨cs',h1,h2⟩:=hx j (by omega)
   rw[ce] at h1
   obtain⟨_,hlen,hcell⟩:=World.cells?_some h1
   obtain⟨y0,y1,y2,k,_,_,g0,g1,g2⟩:=Deep.trod_struct3 he h2
   match cs',hlen with
   |[v0,v1,v2],_=>
    rw[e0] at g0
    rw[e1] at g1
    rw[e2] at g2
    simp[o0,o1,o2,ci,cs] at g0 g1 g2
    obtain⟨x0,q0,_⟩:=DataW.trod_int hi g0
    obtain⟨x1,q1,_,m1⟩:=DataW.trod_string hs g1
    obtain⟨x2,q2,_,m2⟩:=DataW.trod_string hs g2
    simp at q0 q1 q2
    subst q0 q1 q2
    have d0:=hcell 0 (by omega)
    have d1:=hcell 1 (by omega)
    have d2:=hcell 2 (by omega)
    rw[Deep.add_add] at d0 d1 d2
    exact⟨(x0,x1,x2),by simpa using d0,by simpa using d1,by simpa using d2,by unfold maxLen at m1;exact m1,by unfold maxLen at m2;exact m2⟩
  obtain⟨q,hq⟩:=Deep.choose_lt each
  refine⟨(List.range len).map q,by simp,by unfold maxLen at hm;omega,?_,fun p hp=>by
   obtain⟨j,hj,rfl⟩:=List.mem_map.1 hp
   exact(hq j (by simpa using hj)).2.2.2⟩
  by_cases z:len=0
  ·exact .inl (by simp[z])
  ·obtain⟨blk,off,spot⟩:=b
   have c0:=(hq 0 (by omega)).1
   have hspot:spot=none:=by simpa[Addr.add] using World.cell?_spot c0
   subst hspot
   have c0':w.cell? ⟨blk,off,none⟩=some (.int .i64 (q 0).1):=by simpa[Addr.add] using c0
   refine .inr ⟨blk,off,rfl,World.block_lt_of_cell? w _ c0',fun j hj=>?_⟩
   have hj':j<len:=by simpa using hj
   obtain⟨p0,p1,p2,_⟩:=hq j hj'
   rw[Addr.add_lit] at p0 p1 p2
   have hg:elF ((List.range len).map q) j=q j:=by simp[List.getD,hj']
   rw[hg]
   exact⟨p0,by rw[Nat.add_assoc];exact p1,by rw[Nat.add_assoc];exact p2⟩
theorem struct_cells2{H:Type}{enc:TypeId×Value→H}{P:Program}{w:World}{base:Nat}{spare:Nat→Bool}{held:Bool}{e:TypeId}{f0 f1:Field}{fuel:Nat}{cs:List Value}{x:DataW H×List MemPlace}
  (he:P.underlying e=some (.struct #[f0,f1]))(hc:(P.cellsOf e==2&&P.cellsOf f0.type==1&&P.cellsOf f1.type==1&&f0.offset==0&&f1.offset==1)=true)
  (h:DataW.trod enc P w base spare held fuel e cs=some x):∃v0 v1 k x0 x1,cs=[v0,v1]∧DataW.trod enc P w base spare held k f0.type [v0]=some x0∧DataW.trod enc P w base spare held k f1.type [v1]=some x1:=by
 simp at hc
 obtain⟨⟨⟨⟨ce,k0⟩,k1⟩,o0⟩,o1⟩:=hc
 obtain⟨xs,k,_,_,hl,hlen,hf⟩:=DataW.trod_struct he h
 rw[ce] at hl
 match xs,hlen,cs,hl with
 |[y0,y1],_,[v0,v1],_=>
  have g0:=hf 0 f0 rfl
  have g1:=hf 1 f1 rfl
  simp[o0,k0] at g0
  simp[o1,k1] at g1
  exact⟨v0,v1,k,_,_,rfl,g0,g1⟩
theorem open_disk{H:Type}{enc:TypeId×Value→H}{w:World}{base b0':Nat}{spare:Nat→Bool}{held:Bool}{r:Reach}{v:Value}{d:DataW H}{p:List MemPlace}
  (hv:Value.okWide Tryz.prog w r b0' 48 v)(h:DataW.Trod enc Tryz.prog w base spare held 48 v d p):∃k a len cap ps,v= .agg #[.int .i64 k,.slice a len cap]∧ps.length=len∧len≤9223372036854775807∧ReadsF w a ps∧FitF ps∧(Lit.int .i64 k).wf=true:=by
 obtain⟨cs,rfl,_⟩:=okWide_struct Tryz.underlying48 hv
 obtain⟨fuel,hf⟩:=h
 obtain⟨v0,v1,k,x0,x1,e,g0,g1⟩:=struct_cells2 (cs:=cs.toList) Tryz.underlying48 (by kernel_rfl) (by simpa[Value.cells] using hf)
 obtain⟨z,q,_,wz⟩:=DataW.trod_int Tryz.underlying3 g0
 simp at q
 subst q
 obtain⟨a,len,cap,rfl⟩:∃a len cap,v1= .slice a len cap:=by
  rcases Deep.open_slice Tryz.underlying46 g1 with⟨hcs,_⟩|⟨b,l,c,m,n,D,Pl,hcs,_⟩
  ·simp at hcs
   exact⟨none,0,0,hcs⟩
  ·simp at hcs
   exact⟨_,_,_,hcs⟩
 obtain⟨ps,h1,h2,h3,h4⟩:=open_files (a:=a) (len:=len) (cap:=cap) Tryz.underlying46 Tryz.underlying118 (by kernel_rfl) Tryz.underlying3 Tryz.underlying9 (by simpa[Value.cells] using g1)
 exact⟨z,a,len,cap,ps,congrArg Value.agg (Array.ext' e),h1,h2,h3,h4,wz⟩
end OpensF14
namespace DiskH14
open Fil14 OpensF14
theorem one_more(w:World)(o:Obj):Below w.heap.size w (w.alloc o):=(Below.refl _ _).alloc (Nat.le_refl _) _
def sumZ:List TF→Nat
 |[]=>0
 |p::r=>p.2.1.size+p.2.2.size+sumZ r
theorem sumZ_append(ps qs:List TF):sumZ (ps++qs)=sumZ ps+sumZ qs:=by
 induction ps with
 |nil=>simp[sumZ]
 |cons p r ih=>simp only[List.cons_append,sumZ,ih];omega
theorem sumZ_next{ps:List TF}{k:Nat}(h:k<ps.length):sumZ (ps.take (k+1))=sumZ (ps.take k)+((elF ps k).2.1.size+(elF ps k).2.2.size):=by
 rw[List.take_succ_eq_append_getElem h,sumZ_append]
 simp[sumZ,List.getD,h]
theorem fit_el{ps:List TF}(h:FitF ps){k:Nat}(hk:k<ps.length):(elF ps k).2.1.size≤9223372036854775807∧(elF ps k).2.2.size≤9223372036854775807:=by
 have:=h (ps[k]) (List.getElem_mem _)
 simpa[List.getD,hk] using this
theorem szF(w:World)(x:Int)(s t:ByteArray)(left:Int)(h0:0≤left)(h1:left≤1048576)(f1:s.size≤9223372036854775807)(f2:t.size≤9223372036854775807):
  Calls Tryz.prog 74 #[.agg #[.int .i64 x,.string s,.string t],.int .i64 left] w fun e w'=>∃r,e= .returned (.int .i64 r)∧(r= -1∨(0≤r∧r+s.size+t.size=left))∧Below w.heap.size w w':=by
 have B0:=zh (one_more w (.cells #[.int .i64 x,.string s,.string t] 118))
 generalize hn:s.size=n at *
 generalize hm:t.size=m at *
 have HN:=zh hn
 have HM:=zh hm
 by_cases q:left-(n:Int)<0
 ·go_enter Tryz.func74,Tryz.ntmps74
  go_wp2
  go_ret
  exact⟨-1,rfl,.inl rfl,zu B0⟩
 by_cases q2:left-(n:Int) -(m:Int)<0
 ·go_enter Tryz.func74,Tryz.ntmps74
  go_wp2
  go_ret
  exact⟨-1,rfl,.inl rfl,zu B0⟩
 ·go_enter Tryz.func74,Tryz.ntmps74
  go_wp2
  go_ret
  exact⟨left-n-m,rfl,.inr ⟨by omega,by omega⟩,zu B0⟩
theorem szFS(w:World)(a:Option Addr)(len cap:Nat)(ps:List TF)(hl:ps.length=len)(hx:len≤9223372036854775807)(hr:ReadsF w a ps)(hf:FitF ps):
  Calls Tryz.prog 33 #[.slice a len cap,.int .i64 1048576] w fun e w'=>∃r,e= .returned (.int .i64 r)∧(r= -1∨((0≤r∧r≤1048576)∧len≤1048576∧sumZ ps≤1048576))∧Below w.heap.size w w':=by
 have B0:=zh (Below.refl w.heap.size w)
 have R:=zh hr
 have HF:=zh hf
 have HL:=zh hl
 clear hr hf
 by_cases q:(1048576:Int) -(len:Int)<0
 ·clear hl
  go_enter Tryz.func33,Tryz.ntmps33
  go_wp2
  go_ret
  exact⟨-1,rfl,.inl rfl,zu B0⟩
 have l20:len≤1048576:=by omega
 go_enter Tryz.func33,Tryz.ntmps33
 go_wp2
 go_loopw [1,5] (fun m i wr=>∃(k:Nat) (left:Int),k≤len∧i= .int .i64 k∧m= .int .i64 left∧0≤left∧left≤1048576∧Hid (left+len+sumZ (ps.take k)=1048576)∧Hid (Below w.heap.size w wr)) (fun _ i _=>len-(intOf i).toNat)
 case atStart=>exact⟨0,1048576-(len:Int),by omega,rfl,rfl,by omega,by omega,zh (by simp[sumZ]),B0⟩
 case round=>
  clear B0
  obtain⟨k,left,hk,rfl,rfl,l0,l1,HS,HB⟩:=hrel
  by_cases t:k<len
  ·have tk:k<ps.length:=by omega
   have NX:=zh (sumZ_next tk)
   have F:=fit_el (zu HF) tk
   rcases(zu R).below (zu HB|>.mono (Nat.le_refl _)) with h|⟨b,off,rfl,lb,hc⟩
   ·omega
   obtain⟨d0,d1,d2⟩:=hc k tk
   have SF:=zh (fun u=>szF u (elF ps k).1 (elF ps k).2.1 (elF ps k).2.2 left l0 l1 F.1 F.2)
   have kt:(k:Int)<len:=by omega
   clear F hc
   generalize (elF ps k).1=y0 at *
   generalize (elF ps k).2.1=y1 at *
   generalize (elF ps k).2.2=y2 at *
   go_wp2_with fail
   refine((zu SF) _).mono ?_
   rintro e u ⟨r,rfl,hr,bb⟩
   have B1:=zh ((zu HB).trans (bb.mono (zu HB).size))
   clear bb SF
   rcases hr with rfl|⟨r0,r1⟩
   ·go_wp2
    go_ret
    exact⟨-1,rfl,.inl rfl,zu B1⟩
   ·have rn:¬r<0:=by omega
    have R1:=zh r1
    have L0:=zh (And.intro l0 l1)
    clear r1 l0 l1
    go_wp2
    go_roundw
    case rel=>exact⟨k+1,r,by omega,by go_num,rfl,r0,by have:=zu R1;have:=zu L0;omega,zh (by have:=zu R1;have:=zu HS;rw[zu NX];omega),B1⟩
    case measure=>simp[intOf];omega
  ·have e:k=len:=by omega
   subst e
   have S:=zu HS
   rw[←hl,List.take_length] at S
   have SS:=zh S
   have L0:=zh (And.intro l0 l1)
   clear S
   go_wp2
   go_ret
   exact⟨left,rfl,.inr ⟨zu L0,l20,by have:=zu SS;have:=zu L0;omega⟩,zu HB⟩
theorem szD(w:World)(room:Int)(a:Option Addr)(len cap:Nat)(ps:List TF)(hl:ps.length=len)(hx:len≤9223372036854775807)(hr:ReadsF w a ps)(hf:FitF ps):
  Calls Tryz.prog 11 #[.agg #[.int .i64 room,.slice a len cap],.int .i64 1048576] w fun e w'=>∃r,e= .returned (.int .i64 r)∧(r= -1∨((0≤r∧r≤1048576)∧len≤1048576∧sumZ ps≤1048576))∧Below w.heap.size w w':=by
 have b0:=one_more w (.cells #[.int .i64 room,.slice a len cap] 48)
 have S:=zh (szFS _ a len cap ps hl hx (hr.below b0) hf)
 have B0:=zh b0
 clear b0 hr hf
 go_enter Tryz.func11,Tryz.ntmps11
 go_wp2_with fail
 refine(zu S).mono ?_
 rintro e u ⟨r,rfl,h,bb⟩
 have B1:=zh ((zu B0).trans (bb.mono (zu B0).size))
 have H:=zh h
 clear bb S
 rcases h with rfl|⟨r0,_⟩
 ·go_wp2
  go_ret
  exact⟨-1,rfl,.inl rfl,zu B1⟩
 ·have rn:¬r<0:=by omega
  go_wp2
  go_ret
  exact⟨r,rfl,zu H,zu B1⟩
end DiskH14
namespace HelpF14
open Fil14
theorem info2:(Tryz.prog.info? 120).map (fun i=>(i.zero,i.size,i.bytes))=some (some (.agg #[.int .i64 0,.string ByteArray.empty,.string ByteArray.empty]),3,40):=by kernel_rfl
theorem to1(w:World)(x:Int)(y z:ByteArray):Calls Tryz.prog 81 #[.agg #[.int .i64 x,.string y,.string z]] w fun e w'=>e= .returned (.agg #[.int .i64 x,.string y,.string z])∧Below w.heap.size w w':=by
 go_enter Tryz.func81,Tryz.ntmps81
 go_wp2
 refine bodyPost_ret (v:= .agg #[.int .i64 x,.string y,.string z]) (by simp[results,Tryz.results81,go_sem]) rfl ⟨rfl,?_⟩
 exact(((Below.refl _ _).alloc (Nat.le_refl _) _).alloc (by simp) _).alloc (by simp;omega) _
theorem made_triples(n:Nat):(madeCells (Value.agg #[.int .i64 0,.string ByteArray.empty,.string ByteArray.empty]).cells (n*3)).toList=flatF (List.replicate n (0,ByteArray.empty,ByteArray.empty)):=by
 apply List.ext_getElem?
 intro j
 by_cases hj:j<n*3
 ·have hs:(Value.agg #[Value.int .i64 0,Value.string ByteArray.empty,Value.string ByteArray.empty]).cells= #[Value.int .i64 0,Value.string ByteArray.empty,Value.string ByteArray.empty]:=rfl
  rw[hs]
  obtain⟨f0,f1,f2⟩:=flatF_get (List.replicate n (0,ByteArray.empty,ByteArray.empty)) (j/3) (by simp;omega)
  have hg:(List.replicate n ((0:Int),ByteArray.empty,ByteArray.empty)).getD (j/3) (0,ByteArray.empty,ByteArray.empty)=(0,ByteArray.empty,ByteArray.empty):=by simp[List.getD,show j/3<n by omega]
  unfold elF at f0 f1 f2
  rw[hg] at f0 f1 f2
  rcases(show j%3=0∨j%3=1∨j%3=2 by omega) with e|e|e
  ·rw[show j/3*3=j by omega] at f0
   rw[f0]
   simp[madeCells,hj,e]
  ·rw[show j/3*3+1=j by omega] at f1
   rw[f1]
   simp[madeCells,hj,e]
  ·rw[show j/3*3+2=j by omega] at f2
   rw[f2]
   simp[madeCells,hj,e]
 ·rw[List.getElem?_eq_none (by simp[madeCells];omega),List.getElem?_eq_none (by rw[flatF_len];simp;omega)]
def part(ps:List TF)(n k:Nat):List TF:=ps.take k++List.replicate (n-k) (0,ByteArray.empty,ByteArray.empty)
theorem part_zero(ps:List TF)(n:Nat):part ps n 0=List.replicate n (0,ByteArray.empty,ByteArray.empty):=by simp[part]
theorem part_all(ps:List TF)(n:Nat)(h:ps.length=n):part ps n n=ps:=by
 unfold part
 rw[←h];simp
theorem part_step(ps:List TF)(n k:Nat)(h:ps.length=n)(hk:k<n):(((part ps n k).modify k fun p=>((elF ps k).1,p.2)).modify k (fun p=>(p.1,(elF ps k).2.1,p.2.2))).modify k (fun p=>(p.1,p.2.1,(elF ps k).2.2))=part ps n (k+1):=by
 subst h
 unfold part
 apply List.ext_getElem?
 intro j
 have l1:(ps.take k).length=k:=by simp;omega
 have l2:(ps.take (k+1)).length=k+1:=by simp;omega
 rw[List.getElem?_modify,List.getElem?_modify,List.getElem?_modify]
 by_cases e:k=j
 ·subst e
  rw[List.getElem?_append_right (by omega),List.getElem?_append_left (by omega),List.getElem?_take,if_pos (by omega),l1]
  simp[List.getD,hk,show 0<ps.length-k by omega]
 ·by_cases l:j<k
  ·rw[List.getElem?_append_left (by omega),List.getElem?_append_left (by omega),List.getElem?_take,List.getElem?_take,if_pos l,if_pos (by omega)]
   simp[e]
  ·rw[List.getElem?_append_right (by omega),List.getElem?_append_right (by omega),l1,l2]
   simp only[List.getElem?_replicate]
   by_cases m:j<ps.length
   ·rw[if_pos (by omega),if_pos (by omega)];simp[e]
   ·rw[if_neg (by omega),if_neg (by omega)];simp[e]
theorem toS(w:World)(a:Option Addr)(len cap:Nat)(ps:List TF)(hl:ps.length=len)(h20:len≤1048576)(hr:ReadsF w a ps):
  Calls Tryz.prog 43 #[.slice a len cap] w fun e w'=>e= .returned (.slice (some ⟨w.heap.size,0,none⟩) len len)∧OwnF 120 w' w.heap.size w.heap.size len len ps∧Below w.heap.size w w':=by
 obtain⟨i0,hi,hz0,hz1,hz2⟩:=info_parts info2
 go_enter Tryz.func43,Tryz.ntmps43
 go_wp2_with (at_make;refine wpList_make_full _ rfl _ _ 50 rfl w.heap.size 120 i0 (.agg #[.int .i64 0,.string ByteArray.empty,.string ByteArray.empty]) 3 Tryz.underlying50 hi hz0 hz1 .i64 .i64 _ _ len rfl rfl rfl rfl (by rw[hz2];omega) (by unfold maxLen;omega) (Nat.le_refl _) ?_;intro w1 hown hgrow)
 rw[made_triples,←part_zero ps] at hown
 have hb:=grownBy_below hgrow
 have hown:OwnF 120 w1 w.heap.size w.heap.size len len (part ps len 0):=hown
 clear hgrow
 go_loopw [4] (fun i wr=>∃(k:Nat),k≤len∧i= .int .i64 k∧OwnF 120 wr w.heap.size w.heap.size len len (part ps len k)∧Below w.heap.size w wr) (fun i _=>len-(intOf i).toNat)
 case atStart=>exact⟨0,by omega,rfl,hown,hb⟩
 case round=>
  clear hown hb
  obtain⟨k,hk,rfl,hown,hb⟩:=hrel
  by_cases t:k<len
  ·rcases hr with hz|⟨b,off,rfl,hlt,hcell⟩
   ·omega
   have hc0:=(hb.cell (p:=⟨b,off+k*3,none⟩) hlt).trans (hcell k (by omega)).1
   have hc1:=(hb.cell (p:=⟨b,off+k*3+1,none⟩) hlt).trans (hcell k (by omega)).2.1
   have hc2:=(hb.cell (p:=⟨b,off+k*3+2,none⟩) hlt).trans (hcell k (by omega)).2.2
   clear hcell
   have HO:=zh hown
   have HB:=zh hb
   clear hown hb
   have PS:=zh (part_step ps len k hl t)
   generalize (elF ps k).1=x at *
   generalize (elF ps k).2.1=y at *
   generalize (elF ps k).2.2=z at *
   go_wp2_with fail
   refine(to1 _ x y z).mono ?_
   rintro e w2 ⟨rfl,b2⟩
   have o2:=(zu HO).below b2 (zu HO).lt.2
   have hb2:=(zu HB).trans (b2.mono (zu HB).size)
   clear HO HB b2 hc0 hc1 hc2
   have hs:=o2.set0 k x
   have hs2:=hs.1.set1 k y
   have hs3:=hs2.1.set2 k z
   have hd:=o2.at k (by rw[o2.len];exact t)
   have hd0:=hd.1
   have hd1:=hd.2.1
   have hd2:=hd.2.2
   have hf0:=o2.free (k*3)
   have hf1:=o2.free (k*3+1)
   have hf2:=o2.free (k*3+2)
   have HS:=zh hs3.1
   have HB:=zh (((hb2.setCell (p:=⟨w.heap.size,k*3,none⟩) (Nat.le_refl _) (.int .i64 x)).setCell (p:=⟨w.heap.size,k*3+1,none⟩) (Nat.le_refl _) (.string y)).setCell (p:=⟨w.heap.size,k*3+2,none⟩) (Nat.le_refl _) (.string z))
   clear hs hs2 hs3 hd o2 hb2
   go_wp2
   go_roundw
   case rel=>
    have o:=zu HS
    rw[zu PS] at o
    exact⟨k+1,by omega,by go_num,o,zu HB⟩
   case measure=>simp[intOf];omega
  ·obtain rfl:k=len:=by omega
   rw[part_all ps k hl] at hown
   have HO:=zh hown
   have HB:=zh hb
   clear hown hb hr
   go_wp2
   go_ret
   exact⟨rfl,zu HO,zu HB⟩
theorem eq1(w:World)(x:Int)(y z:ByteArray):Calls Tryz.prog 88 #[.agg #[.int .i64 x,.string y,.string z],.agg #[.int .i64 x,.string y,.string z]] w fun e w'=>e= .returned (.bool true)∧w'=(w.alloc (.cells #[.int .i64 x,.string y,.string z] 120)).alloc (.cells #[.int .i64 x,.string y,.string z] 120):=by
 go_enter Tryz.func88,Tryz.ntmps88
 go_wp2
 go_ret
 exact⟨rfl,rfl⟩
theorem two_more(w:World)(o p:Obj):Below w.heap.size w ((w.alloc o).alloc p).drew:=(((Below.refl _ _).alloc (Nat.le_refl _) _).alloc (by simp) _).drew
theorem eqS(w:World)(g1 g2 n c1 c2:Nat)(ps:List TF)(hl:ps.length=n)(h20:n≤1048576)(l1:g1<w.heap.size)(l2:g2<w.heap.size)(h1:AtF w g1 ps)(h2:AtF w g2 ps):
  Calls Tryz.prog 47 #[.slice (some ⟨g1,0,none⟩) n c1,.slice (some ⟨g2,0,none⟩) n c2] w fun e w'=>e= .returned (.bool true)∧Below w.heap.size w w':=by
 go_enter Tryz.func47,Tryz.ntmps47
 go_wp2
 go_loopw [5] (fun i wr=>∃(k:Nat),k≤n∧i= .int .i64 k∧AtF wr g1 ps∧AtF wr g2 ps∧Below w.heap.size w wr) (fun i _=>n-(intOf i).toNat)
 case atStart=>exact⟨0,by omega,rfl,h1,h2,Below.refl _ _⟩
 case round=>
  clear h1 h2
  obtain⟨k,hk,rfl,h1,h2,hb⟩:=hrel
  by_cases t:k<n
  ·obtain⟨e1,f1,i1⟩:=h1 k (by omega)
   obtain⟨e2,f2,i2⟩:=h2 k (by omega)
   have s:=hb.size
   have H1:=zh h1
   have H2:=zh h2
   have HB:=zh hb
   clear h1 h2 hb
   generalize (elF ps k).1=x at *
   generalize (elF ps k).2.1=y at *
   generalize (elF ps k).2.2=z at *
   go_wp2_with fail
   go_region_held3 (fun w'=>w'.cell? ⟨g1,k*3,none⟩=some (.int .i64 x)∧w'.cell? ⟨g2,k*3,none⟩=some (.int .i64 x)∧w'.cell? ⟨g1,k*3+1,none⟩=some (.string y)∧w'.cell? ⟨g2,k*3+1,none⟩=some (.string y)∧w'.cell? ⟨g1,k*3+2,none⟩=some (.string z)∧w'.cell? ⟨g2,k*3+2,none⟩=some (.string z)) (go_keep)
    (first|(go_at_call 88;refine(eq1 _ _ _ _).mono ?_;rintro e w2 ⟨rfl,rfl⟩))
   all_goals(go_wp2;go_roundw)
   all_goals first
    |(have b2:=two_more wr (.cells #[.int .i64 x,.string y,.string z] 120) (.cells #[.int .i64 x,.string y,.string z] 120)
      exact⟨k+1,by omega,by go_num,(zu H1).below b2 (by omega),(zu H2).below b2 (by omega),next (zu HB) b2⟩)
    |(simp[intOf];omega)
  ·have HB:=zh hb
   clear h1 h2 hb
   go_wp2
   go_ret
   exact⟨rfl,zu HB⟩
end HelpF14
namespace MarkF14
open Fil14
def dg(k:Nat)(s:ByteArray):ByteArray:=if 0<k then dg (k/10) (strOfNums [48+(k:Int)%10]++s) else s
termination_by k
decreasing_by omega
def mt(k:Int):ByteArray:=⟨#[109]⟩++dg k.toNat ⟨#[]⟩
theorem dg_more{k:Nat}{s:ByteArray}(h:0<k):dg k s=dg (k/10) (strOfNums [48+(k:Int)%10]++s):=by rw[dg,if_pos h]
theorem dg_last{k:Nat}{s:ByteArray}(h:¬0<k):dg k s=s:=by rw[dg,if_neg h]
theorem markT(w:World)(k0:Int)(h0:0<k0)(h1:k0≤100000000):
  Calls Tryz.prog 89 #[.int .i64 k0] w fun e w'=>e= .returned (.string (mt k0))∧Below w.heap.size w w':=by
 obtain⟨r,hr⟩:∃r,Hid (mt k0=r):=⟨_,rfl⟩
 rw[zu hr]
 have S0:=zh (show(⟨#[109]⟩:ByteArray)++dg k0.toNat ⟨#[]⟩=r from zu hr)
 go_enter Tryz.func89,Tryz.ntmps89
 go_wp2
 go_loopw [0,3] (fun a o wr=>∃(k:Int) (s:ByteArray),a= .int .i64 k∧o= .string s∧0≤k∧k≤100000000∧Hid ((⟨#[109]⟩:ByteArray)++dg k.toNat s=r)∧Hid (s.size+k.toNat≤100000000)∧Hid (Below w.heap.size w wr)) (fun a _ _=>(intOf a).toNat)
 case atStart=>exact⟨k0,⟨#[]⟩,rfl,rfl,by omega,h1,S0,zh (by have:(⟨#[]⟩:ByteArray).size=0:=rfl;omega),zh (Below.refl _ _)⟩
 case round=>
  clear S0 h0 h1
  obtain⟨k,s,rfl,rfl,k1,k2,HD,HZ,HB⟩:=hrel
  have hz:=zu HZ
  by_cases t:0<k
  ·have ND:=zh (show(⟨#[109]⟩:ByteArray)++dg (k/10).toNat (strOfNums [48+k%10]++s)=r from by
    rw[←zu HD,dg_more (k:=k.toNat) (by omega),show((k.toNat:Nat):Int)=k by omega,show k.toNat/10=(k/10).toNat by omega])
   have CV:=run_convert_bytes_arg (P:=Tryz.prog) (wr.alloc (.cells #[.int .u8 (48+k%10)] 5)) 63 5 Tryz.underlying63 Tryz.underlying5 wr.heap.size 0 1 1 [48+k%10] rfl (fun i hi=>by
    have:i=0:=by omega
    subst this
    simp) 9 Tryz.underlying9
   have cz:=strOfNums_size [48+k%10]
   have E:=zh (show wrap64 (k.tdiv 10)=k/10 from by rw[Int.tdiv_eq_ediv_of_nonneg k1,wrap64];omega)
   have B1:=zh ((zu HB).alloc (zu HB).size (.cells #[.int .u8 (48+k%10)] 5))
   have KK:=zh (And.intro k1 k2)
   have cz1:(strOfNums [48+k%10]).size=1:=cz
   obtain⟨c,hc⟩:∃c,Hid (strOfNums [48+k%10]=c):=⟨_,rfl⟩
   rw[zu hc] at CV ND cz1
   have sz:¬(c.size+s.size>9223372036854775807):=by omega
   have CZ:=zh cz1
   clear cz cz1 hc HD
   go_wp2
   go_roundw
   case rel=>
    have kk:=zu KK
    exact⟨k/10,c++s,by first|rfl|(congr 1;exact zu E),rfl,by omega,by omega,ND,zh (by have:=zu CZ;rw[ByteArray.size_append];omega),B1⟩
   case measure=>
    have kk:=zu KK
    have e:=zu E
    simp[intOf]
    omega
  ·have e:k=0:=by omega
   subst e
   have D:=zu HD
   rw[dg_last (by simp)] at D
   have HD2:=zh D
   have sz:¬((⟨#[109]⟩:ByteArray).size+s.size>9223372036854775807):=by have:(⟨#[109]⟩:ByteArray).size=1:=rfl;omega
   clear D HD
   go_wp2
   go_ret
   exact⟨by rw[←zu HD2];rfl,zu HB⟩
end MarkF14
end Go.Proofs.YtagmnociflkhcaaGreat
