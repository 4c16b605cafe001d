/- Lemmas. -/
import Derived.Test.YtppkkmaoaiopaaaGreatQF1
open Go.ChangeShapes Go.WideShapes Go.ChangeAt Go.RowKit
set_option linter.unusedVariables false
set_option linter.unusedSimpArgs false
set_option maxRecDepth 100000
set_option maxHeartbeats 32000000
namespace Go.Proofs.YtppkkmaoaiopaaaGreat
namespace AccountHelp
open Pairs
theorem info2:(Tryz.prog.info? 129).map (fun i=>(i.zero,i.size,i.bytes))=some (some (.agg #[.int .i64 0,.int .i64 0]),2,16):=by kernel_rfl
theorem to1(w:World)(x y:Int):Calls Tryz.prog 105 #[.agg #[.int .i64 x,.int .i64 y]] w fun e w'=>e= .returned (.agg #[.int .i64 x,.int .i64 y])∧Below w.heap.size w w':=by
 go_enter Tryz.func105,Tryz.ntmps105
 go_wp2
 refine bodyPost_ret (v:= .agg #[.int .i64 x,.int .i64 y]) (by simp[results,Tryz.results105,go_sem]) rfl ⟨rfl,?_⟩
 exact(((Below.refl _ _).alloc (Nat.le_refl _) _).alloc (by simp) _).alloc (by simp;omega) _
theorem made_pairs(n:Nat):(madeCells (Value.agg #[.int .i64 0,.int .i64 0]).cells (n*2)).toList=flat (List.replicate n (0,0)):=by
 apply List.ext_getElem?
 intro j
 by_cases hj:j<n*2
 ·have hs:(Value.agg #[Value.int .i64 0,Value.int .i64 0]).cells= #[Value.int .i64 0,Value.int .i64 0]:=rfl
  rw[hs]
  obtain⟨f0,f1⟩:=flat_get (List.replicate n (0,0)) (j/2) (by simp;omega)
  have hg:(List.replicate n ((0:Int),(0:Int))).getD (j/2) (0,0)=(0,0):=by simp[List.getD,show j/2<n by omega]
  rw[hg] at f0 f1
  rcases(show j%2=0∨j%2=1 by omega) with e|e
  ·rw[show j/2*2=j by omega] at f0
   rw[f0]
   simp[madeCells,hj,e]
  ·rw[show j/2*2+1=j by omega] at f1
   rw[f1]
   simp[madeCells,hj,e]
 ·rw[List.getElem?_eq_none (by simp[madeCells];omega),List.getElem?_eq_none (by rw[flat_len];simp;omega)]
def part(ps:List (Int×Int))(n k:Nat):List (Int×Int):=ps.take k++List.replicate (n-k) (0,0)
theorem part_zero(ps:List (Int×Int))(n:Nat):part ps n 0=List.replicate n (0,0):=by simp[part]
theorem part_all(ps:List (Int×Int))(n:Nat)(h:ps.length=n):part ps n n=ps:=by
 unfold part
 rw[←h];simp
theorem part_step(ps:List (Int×Int))(n k:Nat)(h:ps.length=n)(hk:k<n):((part ps n k).modify k fun p=>((ps.getD k (0,0)).1,p.2)).modify k (fun p=>(p.1,(ps.getD k (0,0)).2))=part ps n (k+1):=by
 subst h
 unfold part
 apply List.ext_getElem?
 intro j
 have l1:(ps.take k).length=k:=by simp;omega
 have l2:(ps.take (k+1)).length=k+1:=by simp;omega
 rw[List.getElem?_modify,List.getElem?_modify]
 by_cases e:k=j
 ·subst e
  rw[List.getElem?_append_right (by omega),List.getElem?_append_left (by omega),List.getElem?_take,if_pos (by omega),l1]
  simp[List.getD,hk,show 0<ps.length-k by omega]
 ·by_cases l:j<k
  ·rw[List.getElem?_append_left (by omega),List.getElem?_append_left (by omega),List.getElem?_take,List.getElem?_take,if_pos l,if_pos (by omega)]
   simp[e]
  ·rw[List.getElem?_append_right (by omega),List.getElem?_append_right (by omega),l1,l2]
   simp only[List.getElem?_replicate]
   by_cases m:j<ps.length
   ·rw[if_pos (by omega),if_pos (by omega)];simp[e]
   ·rw[if_neg (by omega),if_neg (by omega)];simp[e]
theorem toS(w:World)(a:Option Addr)(len cap:Nat)(ps:List (Int×Int))(hl:ps.length=len)(h20:len≤1048576)(hr:Reads w a ps):
  Calls Tryz.prog 53 #[.slice a len cap] w fun e w'=>e= .returned (.slice (some ⟨w.heap.size,0,none⟩) len len)∧Own 129 w' w.heap.size w.heap.size len len ps∧Below w.heap.size w w':=by
 obtain⟨i0,hi,hz0,hz1,hz2⟩:=info_parts info2
 go_enter Tryz.func53,Tryz.ntmps53
 go_wp2_with (at_make;refine wpList_make_full _ rfl _ _ 38 rfl w.heap.size 129 i0 (.agg #[.int .i64 0,.int .i64 0]) 2 Tryz.underlying38 hi hz0 hz1 .i64 .i64 _ _ len rfl rfl rfl rfl (by rw[hz2];omega) (by unfold maxLen;omega) (Nat.le_refl _) ?_;intro w1 hown hgrow)
 rw[made_pairs,←part_zero ps] at hown
 have hb:=grownBy_below hgrow
 have hown:Own 129 w1 w.heap.size w.heap.size len len (part ps len 0):=hown
 clear hgrow
 go_loopw [4] (fun i wr=>∃(k:Nat),k≤len∧i= .int .i64 k∧Own 129 wr w.heap.size w.heap.size len len (part ps len k)∧Below w.heap.size w wr) (fun i _=>len-(intOf i).toNat)
 case atStart=>exact⟨0,by omega,rfl,hown,hb⟩
 case round=>
  clear hown hb
  obtain⟨k,hk,rfl,hown,hb⟩:=hrel
  by_cases t:k<len
  ·rcases hr with hz|⟨b,off,rfl,hlt,hcell⟩
   ·omega
   have hc0:=(hb.cell (p:=⟨b,off+k*2,none⟩) hlt).trans (hcell k (by omega)).1
   have hc1:=(hb.cell (p:=⟨b,off+k*2+1,none⟩) hlt).trans (hcell k (by omega)).2
   clear hcell
   have HO:=zh hown
   have HB:=zh hb
   clear hown hb
   generalize hx:(ps.getD k (0,0)).1=x at *
   generalize hy:(ps.getD k (0,0)).2=y at *
   have HX:=zh hx
   have HY:=zh hy
   clear hx hy
   go_wp2_with fail
   refine(to1 _ x y).mono ?_
   rintro e w2 ⟨rfl,b2⟩
   have o2:=(zu HO).below b2 (zu HO).lt.2
   have hb2:=(zu HB).trans (b2.mono (zu HB).size)
   clear HO HB b2 hc0 hc1
   have hs:=o2.set0 k x
   have hs2:=hs.1.set1 k y
   have hd:=o2.at k (by rw[o2.len];exact t)
   have hd0:=hd.1
   have hd1:=hd.2
   have hf0:=o2.free (k*2)
   have hf1:=o2.free (k*2+1)
   have HS:=zh hs2.1
   have HB:=zh ((hb2.setCell (p:=⟨w.heap.size,k*2,none⟩) (Nat.le_refl _) (.int .i64 x)).setCell (p:=⟨w.heap.size,k*2+1,none⟩) (Nat.le_refl _) (.int .i64 y))
   clear hs hs2 hd o2 hb2
   go_wp2
   go_roundw
   case rel=>
    have o:=zu HS
    rw[←zu HX,←zu HY] at o
    rw[part_step ps len k hl t] at o
    refine⟨k+1,by omega,by go_num,?_,zu HB⟩
    rw[←zu HX,←zu HY]
    exact o
   case measure=>simp[intOf];omega
  ·obtain rfl:k=len:=by omega
   rw[part_all ps k hl] at hown
   have HO:=zh hown
   have HB:=zh hb
   clear hown hb hr
   go_wp2
   go_ret
   exact⟨rfl,zu HO,zu HB⟩
theorem eq1(w:World)(x y:Int):Calls Tryz.prog 118 #[.agg #[.int .i64 x,.int .i64 y],.agg #[.int .i64 x,.int .i64 y]] w fun e w'=>e= .returned (.bool true)∧w'=(w.alloc (.cells #[.int .i64 x,.int .i64 y] 129)).alloc (.cells #[.int .i64 x,.int .i64 y] 129):=by
 go_enter Tryz.func118,Tryz.ntmps118
 go_wp2
 go_ret
 exact⟨rfl,rfl⟩
theorem two_more(w:World)(o p:Obj):Below w.heap.size w ((w.alloc o).alloc p).drew:=(((Below.refl _ _).alloc (Nat.le_refl _) _).alloc (by simp) _).drew
theorem eqS(w:World)(g1 g2 n c1 c2:Nat)(ps:List (Int×Int))(hl:ps.length=n)(h20:n≤1048576)(l1:g1<w.heap.size)(l2:g2<w.heap.size)(h1:At w g1 ps)(h2:At w g2 ps):
  Calls Tryz.prog 66 #[.slice (some ⟨g1,0,none⟩) n c1,.slice (some ⟨g2,0,none⟩) n c2] w fun e w'=>e= .returned (.bool true)∧Below w.heap.size w w':=by
 go_enter Tryz.func66,Tryz.ntmps66
 go_wp2
 go_loopw [5] (fun i wr=>∃(k:Nat),k≤n∧i= .int .i64 k∧At wr g1 ps∧At wr g2 ps∧Below w.heap.size w wr) (fun i _=>n-(intOf i).toNat)
 case atStart=>exact⟨0,by omega,rfl,h1,h2,Below.refl _ _⟩
 case round=>
  clear h1 h2
  obtain⟨k,hk,rfl,h1,h2,hb⟩:=hrel
  by_cases t:k<n
  ·obtain⟨e1,f1⟩:=h1 k (by omega)
   obtain⟨e2,f2⟩:=h2 k (by omega)
   have s:=hb.size
   have H1:=zh h1
   have H2:=zh h2
   have HB:=zh hb
   clear h1 h2 hb
   generalize (ps.getD k (0,0)).1=x at *
   generalize (ps.getD k (0,0)).2=y at *
   go_wp2_with fail
   go_region_held3 (fun w'=>w'.cell? ⟨g1,k*2,none⟩=some (.int .i64 x)∧w'.cell? ⟨g2,k*2,none⟩=some (.int .i64 x)∧w'.cell? ⟨g1,k*2+1,none⟩=some (.int .i64 y)∧w'.cell? ⟨g2,k*2+1,none⟩=some (.int .i64 y)) (go_keep)
    (first|(go_at_call 118;refine(eq1 _ _ _).mono ?_;rintro e w2 ⟨rfl,rfl⟩))
   all_goals(go_wp2;go_roundw)
   all_goals first
    |(have b2:=two_more wr (.cells #[.int .i64 x,.int .i64 y] 129) (.cells #[.int .i64 x,.int .i64 y] 129)
      exact⟨k+1,by omega,by go_num,(zu H1).below b2 (by omega),(zu H2).below b2 (by omega),next (zu HB) b2⟩)
    |(simp[intOf];omega)
  ·have HB:=zh hb
   clear h1 h2 hb
   go_wp2
   go_ret
   exact⟨rfl,zu HB⟩
end AccountHelp
namespace AccountMark
open Pairs
def marks(s:Int)(n:Nat):List (Int×Int):=(List.range n).map fun(i:Nat)=>(s+2*(i:Int),s+2*(i:Int)+1)
theorem marks_len(s:Int)(n:Nat):(marks s n).length=n:=by simp[marks]
theorem marks_getD(s:Int)(n i:Nat)(h:i<n):(marks s n).getD i (0,0)=(s+2*(i:Int),s+2*(i:Int)+1):=by simp[marks,List.getD,h]
def marked(s:Int)(ps:List (Int×Int))(n j:Nat):List (Int×Int):=(marks s n).take j++ps.drop j
theorem marked_zero(s:Int)(ps:List (Int×Int))(n:Nat):marked s ps n 0=ps:=by simp[marked]
theorem marked_all(s:Int)(ps:List (Int×Int))(n:Nat)(h:ps.length=n):marked s ps n n=marks s n:=by
 unfold marked
 rw[List.take_of_length_le (by rw[marks_len];exact Nat.le_refl _),List.drop_of_length_le (by omega),List.append_nil]
theorem marked_step(s:Int)(ps:List (Int×Int))(n j:Nat)(h:ps.length=n)(hj:j<n):((marked s ps n j).modify j fun p=>(s+2*(j:Int),p.2)).modify j (fun p=>(p.1,s+2*(j:Int)+1))=marked s ps n (j+1):=by
 unfold marked
 have l:=marks_len s n
 have g:=marks_getD s n j hj
 have l1:((marks s n).take j).length=j:=by simp;omega
 have l2:((marks s n).take (j+1)).length=j+1:=by simp;omega
 apply List.ext_getElem?
 intro i
 rw[List.getElem?_modify,List.getElem?_modify]
 by_cases e:j=i
 ·subst e
  rw[List.getElem?_append_right (by omega),List.getElem?_append_left (by omega),List.getElem?_take,if_pos (by omega),l1]
  have hg:(marks s n)[j]?=some (s+2*(j:Int),s+2*(j:Int)+1):=by
   rw[←g];simp[List.getD,l,hj]
  rw[hg]
  simp[List.getElem?_drop,h,hj]
 ·by_cases q:i<j
  ·rw[List.getElem?_append_left (by omega),List.getElem?_append_left (by omega),List.getElem?_take,List.getElem?_take,if_pos q,if_pos (by omega)]
   simp[e]
  ·rw[List.getElem?_append_right (by omega),List.getElem?_append_right (by omega),l1,l2]
   simp only[List.getElem?_drop]
   rw[show j+(i-j)=i by omega,show j+1+(i-(j+1))=i by omega]
   simp[e]
theorem markS(w:World)(base g n cap:Nat)(s:Int)(ps:List (Int×Int))(h20:n≤1048576)(s0:0≤s)(s1:s≤100000000)(ho:Own 129 w base g n cap ps):
  Calls Tryz.prog 72 #[.slice (some ⟨g,0,none⟩) n cap,.int .i64 s] w fun e w'=>e= .returned (.int .i64 (s+2*(n:Int)))∧Own 129 w' base g n cap (marks s n)∧w.grownBy w' (some g):=by
 have hl:=ho.len
 have ho':Own 129 w base g n cap (marked s ps n 0):=by rw[marked_zero];exact ho
 clear ho
 go_enter Tryz.func72,Tryz.ntmps72
 go_wp2
 go_loopw [1,5] (fun m i wr=>∃(k:Nat),k≤n∧i= .int .i64 k∧m= .int .i64 (s+2*(k:Int))∧Own 129 wr base g n cap (marked s ps n k)∧w.grownBy wr (some g)) (fun _ i _=>n-(intOf i).toNat)
 case atStart=>exact⟨0,by omega,rfl,by go_num,ho',World.grownBy.refl _ _⟩
 case round=>
  clear ho'
  obtain⟨k,hk,rfl,rfl,hown,hg⟩:=hrel
  by_cases t:k<n
  ·obtain⟨o1,q1⟩:=hown.set0 k (s+2*(k:Int))
   obtain⟨o2,q2⟩:=o1.set1 k (s+2*(k:Int)+1)
   obtain⟨hd0,hd1⟩:=hown.at k (by rw[Own.len hown];exact t)
   have hf0:=hown.free (k*2)
   have hf1:=hown.free (k*2+1)
   rw[marked_step s ps n k hl t] at o2
   have HO:=zh o2
   have HG:=zh (grown_trans (grown_trans hg q1) q2)
   clear hown hg o1 q1 o2 q2
   generalize ((marked s ps n k).getD k (0,0)).1=z0 at hd0
   generalize ((marked s ps n k).getD k (0,0)).2=z1 at hd1
   go_wp2
   go_roundw
   case rel=>exact⟨k+1,by omega,by go_num,by go_num,zu HO,zu HG⟩
   case measure=>simp[intOf];omega
  ·obtain rfl:k=n:=by omega
   rw[marked_all s ps k hl] at hown
   have HO:=zh hown
   have HG:=zh hg
   clear hown hg
   go_wp2
   go_ret
   exact⟨rfl,zu HO,zu HG⟩
theorem heldS(w:World)(g n cap:Nat)(s:Int)(h20:n≤1048576)(s0:0≤s)(s1:s≤100000000)(h:At w g (marks s n)):
  Calls Tryz.prog 78 #[.slice (some ⟨g,0,none⟩) n cap,.int .i64 s] w fun e w'=>e= .returned (.int .i64 (s+2*(n:Int)))∧w'=w:=by
 go_enter Tryz.func78,Tryz.ntmps78
 go_wp2
 go_loop [1,5] (fun m i=>∃(k:Nat),k≤n∧i= .int .i64 k∧m= .int .i64 (s+2*(k:Int))) (fun _ i=>n-(intOf i).toNat)
 case atStart=>exact⟨0,by omega,rfl,by go_num⟩
 case round=>
  obtain⟨k,hk,rfl,rfl⟩:=hrel
  by_cases t:k<n
  ·obtain⟨e0,e1⟩:=h k (by rw[marks_len];exact t)
   rw[marks_getD s n k t] at e0 e1
   clear h
   go_wp2
   go_round
   case rel=>exact⟨k+1,by omega,by go_num,by go_num⟩
   case measure=>simp[intOf];omega
  ·obtain rfl:k=n:=by omega
   clear h
   go_wp2
   go_ret
   exact⟨rfl,rfl⟩
theorem sz_yes(a:Option Addr)(len cap:Nat)(l:Int)(w:World)(h:(len:Int)≤l)(hl:l≤1048576):
  Calls Tryz.prog 30 #[.slice a len cap,.int .i64 l] w fun e w'=>e= .returned (.int .i64 (l-(len:Int)))∧w'=w:=by
 have h1:(0:Int)≤l-(len:Int):=by omega
 have h2:wrap64 (l-(len:Int))=l-(len:Int):=by rw[wrap64];omega
 go_enter Tryz.func30,Tryz.ntmps30
 go_wp2
 go_ret
 exact⟨rfl,rfl⟩
theorem sz_no(a:Option Addr)(len cap:Nat)(l:Int)(w:World)(h:¬(len:Int)≤l)(hl:l≤1048576)(h0:0≤l)(hm:len≤9223372036854775807):
  Calls Tryz.prog 30 #[.slice a len cap,.int .i64 l] w fun e w'=>e= .returned (.int .i64 (-1))∧w'=w:=by
 have h1:l-(len:Int)<0:=by omega
 have h2:wrap64 (l-(len:Int))=l-(len:Int):=by rw[wrap64];omega
 go_enter Tryz.func30,Tryz.ntmps30
 go_wp2
 go_ret
 exact⟨rfl,rfl⟩
end AccountMark
namespace InstrHelp
open Pairs
theorem info2:(Tryz.prog.info? 130).map (fun i=>(i.zero,i.size,i.bytes))=some (some (.agg #[.int .i64 0,.int .i64 0]),2,16):=by kernel_rfl
theorem to1(w:World)(x y:Int):Calls Tryz.prog 106 #[.agg #[.int .i64 x,.int .i64 y]] w fun e w'=>e= .returned (.agg #[.int .i64 x,.int .i64 y])∧Below w.heap.size w w':=by
 go_enter Tryz.func106,Tryz.ntmps106
 go_wp2
 refine bodyPost_ret (v:= .agg #[.int .i64 x,.int .i64 y]) (by simp[results,Tryz.results106,go_sem]) rfl ⟨rfl,?_⟩
 exact(((Below.refl _ _).alloc (Nat.le_refl _) _).alloc (by simp) _).alloc (by simp;omega) _
theorem made_pairs(n:Nat):(madeCells (Value.agg #[.int .i64 0,.int .i64 0]).cells (n*2)).toList=flat (List.replicate n (0,0)):=by
 apply List.ext_getElem?
 intro j
 by_cases hj:j<n*2
 ·have hs:(Value.agg #[Value.int .i64 0,Value.int .i64 0]).cells= #[Value.int .i64 0,Value.int .i64 0]:=rfl
  rw[hs]
  obtain⟨f0,f1⟩:=flat_get (List.replicate n (0,0)) (j/2) (by simp;omega)
  have hg:(List.replicate n ((0:Int),(0:Int))).getD (j/2) (0,0)=(0,0):=by simp[List.getD,show j/2<n by omega]
  rw[hg] at f0 f1
  rcases(show j%2=0∨j%2=1 by omega) with e|e
  ·rw[show j/2*2=j by omega] at f0
   rw[f0]
   simp[madeCells,hj,e]
  ·rw[show j/2*2+1=j by omega] at f1
   rw[f1]
   simp[madeCells,hj,e]
 ·rw[List.getElem?_eq_none (by simp[madeCells];omega),List.getElem?_eq_none (by rw[flat_len];simp;omega)]
def part(ps:List (Int×Int))(n k:Nat):List (Int×Int):=ps.take k++List.replicate (n-k) (0,0)
theorem part_zero(ps:List (Int×Int))(n:Nat):part ps n 0=List.replicate n (0,0):=by simp[part]
theorem part_all(ps:List (Int×Int))(n:Nat)(h:ps.length=n):part ps n n=ps:=by
 unfold part
 rw[←h];simp
theorem part_step(ps:List (Int×Int))(n k:Nat)(h:ps.length=n)(hk:k<n):((part ps n k).modify k fun p=>((ps.getD k (0,0)).1,p.2)).modify k (fun p=>(p.1,(ps.getD k (0,0)).2))=part ps n (k+1):=by
 subst h
 unfold part
 apply List.ext_getElem?
 intro j
 have l1:(ps.take k).length=k:=by simp;omega
 have l2:(ps.take (k+1)).length=k+1:=by simp;omega
 rw[List.getElem?_modify,List.getElem?_modify]
 by_cases e:k=j
 ·subst e
  rw[List.getElem?_append_right (by omega),List.getElem?_append_left (by omega),List.getElem?_take,if_pos (by omega),l1]
  simp[List.getD,hk,show 0<ps.length-k by omega]
 ·by_cases l:j<k
  ·rw[List.getElem?_append_left (by omega),List.getElem?_append_left (by omega),List.getElem?_take,List.getElem?_take,if_pos l,if_pos (by omega)]
   simp[e]
  ·rw[List.getElem?_append_right (by omega),List.getElem?_append_right (by omega),l1,l2]
   simp only[List.getElem?_replicate]
   by_cases m:j<ps.length
   ·rw[if_pos (by omega),if_pos (by omega)];simp[e]
   ·rw[if_neg (by omega),if_neg (by omega)];simp[e]
theorem toS(w:World)(a:Option Addr)(len cap:Nat)(ps:List (Int×Int))(hl:ps.length=len)(h20:len≤1048576)(hr:Reads w a ps):
  Calls Tryz.prog 54 #[.slice a len cap] w fun e w'=>e= .returned (.slice (some ⟨w.heap.size,0,none⟩) len len)∧Own 130 w' w.heap.size w.heap.size len len ps∧Below w.heap.size w w':=by
 obtain⟨i0,hi,hz0,hz1,hz2⟩:=info_parts info2
 go_enter Tryz.func54,Tryz.ntmps54
 go_wp2_with (at_make;refine wpList_make_full _ rfl _ _ 39 rfl w.heap.size 130 i0 (.agg #[.int .i64 0,.int .i64 0]) 2 Tryz.underlying39 hi hz0 hz1 .i64 .i64 _ _ len rfl rfl rfl rfl (by rw[hz2];omega) (by unfold maxLen;omega) (Nat.le_refl _) ?_;intro w1 hown hgrow)
 rw[made_pairs,←part_zero ps] at hown
 have hb:=grownBy_below hgrow
 have hown:Own 130 w1 w.heap.size w.heap.size len len (part ps len 0):=hown
 clear hgrow
 go_loopw [4] (fun i wr=>∃(k:Nat),k≤len∧i= .int .i64 k∧Own 130 wr w.heap.size w.heap.size len len (part ps len k)∧Below w.heap.size w wr) (fun i _=>len-(intOf i).toNat)
 case atStart=>exact⟨0,by omega,rfl,hown,hb⟩
 case round=>
  clear hown hb
  obtain⟨k,hk,rfl,hown,hb⟩:=hrel
  by_cases t:k<len
  ·rcases hr with hz|⟨b,off,rfl,hlt,hcell⟩
   ·omega
   have hc0:=(hb.cell (p:=⟨b,off+k*2,none⟩) hlt).trans (hcell k (by omega)).1
   have hc1:=(hb.cell (p:=⟨b,off+k*2+1,none⟩) hlt).trans (hcell k (by omega)).2
   clear hcell
   have HO:=zh hown
   have HB:=zh hb
   clear hown hb
   generalize hx:(ps.getD k (0,0)).1=x at *
   generalize hy:(ps.getD k (0,0)).2=y at *
   have HX:=zh hx
   have HY:=zh hy
   clear hx hy
   go_wp2_with fail
   refine(to1 _ x y).mono ?_
   rintro e w2 ⟨rfl,b2⟩
   have o2:=(zu HO).below b2 (zu HO).lt.2
   have hb2:=(zu HB).trans (b2.mono (zu HB).size)
   clear HO HB b2 hc0 hc1
   have hs:=o2.set0 k x
   have hs2:=hs.1.set1 k y
   have hd:=o2.at k (by rw[o2.len];exact t)
   have hd0:=hd.1
   have hd1:=hd.2
   have hf0:=o2.free (k*2)
   have hf1:=o2.free (k*2+1)
   have HS:=zh hs2.1
   have HB:=zh ((hb2.setCell (p:=⟨w.heap.size,k*2,none⟩) (Nat.le_refl _) (.int .i64 x)).setCell (p:=⟨w.heap.size,k*2+1,none⟩) (Nat.le_refl _) (.int .i64 y))
   clear hs hs2 hd o2 hb2
   go_wp2
   go_roundw
   case rel=>
    have o:=zu HS
    rw[←zu HX,←zu HY] at o
    rw[part_step ps len k hl t] at o
    refine⟨k+1,by omega,by go_num,?_,zu HB⟩
    rw[←zu HX,←zu HY]
    exact o
   case measure=>simp[intOf];omega
  ·obtain rfl:k=len:=by omega
   rw[part_all ps k hl] at hown
   have HO:=zh hown
   have HB:=zh hb
   clear hown hb hr
   go_wp2
   go_ret
   exact⟨rfl,zu HO,zu HB⟩
theorem eq1(w:World)(x y:Int):Calls Tryz.prog 119 #[.agg #[.int .i64 x,.int .i64 y],.agg #[.int .i64 x,.int .i64 y]] w fun e w'=>e= .returned (.bool true)∧w'=(w.alloc (.cells #[.int .i64 x,.int .i64 y] 130)).alloc (.cells #[.int .i64 x,.int .i64 y] 130):=by
 go_enter Tryz.func119,Tryz.ntmps119
 go_wp2
 go_ret
 exact⟨rfl,rfl⟩
theorem two_more(w:World)(o p:Obj):Below w.heap.size w ((w.alloc o).alloc p).drew:=(((Below.refl _ _).alloc (Nat.le_refl _) _).alloc (by simp) _).drew
theorem eqS(w:World)(g1 g2 n c1 c2:Nat)(ps:List (Int×Int))(hl:ps.length=n)(h20:n≤1048576)(l1:g1<w.heap.size)(l2:g2<w.heap.size)(h1:At w g1 ps)(h2:At w g2 ps):
  Calls Tryz.prog 67 #[.slice (some ⟨g1,0,none⟩) n c1,.slice (some ⟨g2,0,none⟩) n c2] w fun e w'=>e= .returned (.bool true)∧Below w.heap.size w w':=by
 go_enter Tryz.func67,Tryz.ntmps67
 go_wp2
 go_loopw [5] (fun i wr=>∃(k:Nat),k≤n∧i= .int .i64 k∧At wr g1 ps∧At wr g2 ps∧Below w.heap.size w wr) (fun i _=>n-(intOf i).toNat)
 case atStart=>exact⟨0,by omega,rfl,h1,h2,Below.refl _ _⟩
 case round=>
  clear h1 h2
  obtain⟨k,hk,rfl,h1,h2,hb⟩:=hrel
  by_cases t:k<n
  ·obtain⟨e1,f1⟩:=h1 k (by omega)
   obtain⟨e2,f2⟩:=h2 k (by omega)
   have s:=hb.size
   have H1:=zh h1
   have H2:=zh h2
   have HB:=zh hb
   clear h1 h2 hb
   generalize (ps.getD k (0,0)).1=x at *
   generalize (ps.getD k (0,0)).2=y at *
   go_wp2_with fail
   go_region_held3 (fun w'=>w'.cell? ⟨g1,k*2,none⟩=some (.int .i64 x)∧w'.cell? ⟨g2,k*2,none⟩=some (.int .i64 x)∧w'.cell? ⟨g1,k*2+1,none⟩=some (.int .i64 y)∧w'.cell? ⟨g2,k*2+1,none⟩=some (.int .i64 y)) (go_keep)
    (first|(go_at_call 119;refine(eq1 _ _ _).mono ?_;rintro e w2 ⟨rfl,rfl⟩))
   all_goals(go_wp2;go_roundw)
   all_goals first
    |(have b2:=two_more wr (.cells #[.int .i64 x,.int .i64 y] 130) (.cells #[.int .i64 x,.int .i64 y] 130)
      exact⟨k+1,by omega,by go_num,(zu H1).below b2 (by omega),(zu H2).below b2 (by omega),next (zu HB) b2⟩)
    |(simp[intOf];omega)
  ·have HB:=zh hb
   clear h1 h2 hb
   go_wp2
   go_ret
   exact⟨rfl,zu HB⟩
end InstrHelp
namespace InstrMark
open Pairs
def marks(s:Int)(n:Nat):List (Int×Int):=(List.range n).map fun(i:Nat)=>(s+2*(i:Int),s+2*(i:Int)+1)
theorem marks_len(s:Int)(n:Nat):(marks s n).length=n:=by simp[marks]
theorem marks_getD(s:Int)(n i:Nat)(h:i<n):(marks s n).getD i (0,0)=(s+2*(i:Int),s+2*(i:Int)+1):=by simp[marks,List.getD,h]
def marked(s:Int)(ps:List (Int×Int))(n j:Nat):List (Int×Int):=(marks s n).take j++ps.drop j
theorem marked_zero(s:Int)(ps:List (Int×Int))(n:Nat):marked s ps n 0=ps:=by simp[marked]
theorem marked_all(s:Int)(ps:List (Int×Int))(n:Nat)(h:ps.length=n):marked s ps n n=marks s n:=by
 unfold marked
 rw[List.take_of_length_le (by rw[marks_len];exact Nat.le_refl _),List.drop_of_length_le (by omega),List.append_nil]
theorem marked_step(s:Int)(ps:List (Int×Int))(n j:Nat)(h:ps.length=n)(hj:j<n):((marked s ps n j).modify j fun p=>(s+2*(j:Int),p.2)).modify j (fun p=>(p.1,s+2*(j:Int)+1))=marked s ps n (j+1):=by
 unfold marked
 have l:=marks_len s n
 have g:=marks_getD s n j hj
 have l1:((marks s n).take j).length=j:=by simp;omega
 have l2:((marks s n).take (j+1)).length=j+1:=by simp;omega
 apply List.ext_getElem?
 intro i
 rw[List.getElem?_modify,List.getElem?_modify]
 by_cases e:j=i
 ·subst e
  rw[List.getElem?_append_right (by omega),List.getElem?_append_left (by omega),List.getElem?_take,if_pos (by omega),l1]
  have hg:(marks s n)[j]?=some (s+2*(j:Int),s+2*(j:Int)+1):=by
   rw[←g];simp[List.getD,l,hj]
  rw[hg]
  simp[List.getElem?_drop,h,hj]
 ·by_cases q:i<j
  ·rw[List.getElem?_append_left (by omega),List.getElem?_append_left (by omega),List.getElem?_take,List.getElem?_take,if_pos q,if_pos (by omega)]
   simp[e]
  ·rw[List.getElem?_append_right (by omega),List.getElem?_append_right (by omega),l1,l2]
   simp only[List.getElem?_drop]
   rw[show j+(i-j)=i by omega,show j+1+(i-(j+1))=i by omega]
   simp[e]
theorem markS(w:World)(base g n cap:Nat)(s:Int)(ps:List (Int×Int))(h20:n≤1048576)(s0:0≤s)(s1:s≤100000000)(ho:Own 130 w base g n cap ps):
  Calls Tryz.prog 73 #[.slice (some ⟨g,0,none⟩) n cap,.int .i64 s] w fun e w'=>e= .returned (.int .i64 (s+2*(n:Int)))∧Own 130 w' base g n cap (marks s n)∧w.grownBy w' (some g):=by
 have hl:=ho.len
 have ho':Own 130 w base g n cap (marked s ps n 0):=by rw[marked_zero];exact ho
 clear ho
 go_enter Tryz.func73,Tryz.ntmps73
 go_wp2
 go_loopw [1,5] (fun m i wr=>∃(k:Nat),k≤n∧i= .int .i64 k∧m= .int .i64 (s+2*(k:Int))∧Own 130 wr base g n cap (marked s ps n k)∧w.grownBy wr (some g)) (fun _ i _=>n-(intOf i).toNat)
 case atStart=>exact⟨0,by omega,rfl,by go_num,ho',World.grownBy.refl _ _⟩
 case round=>
  clear ho'
  obtain⟨k,hk,rfl,rfl,hown,hg⟩:=hrel
  by_cases t:k<n
  ·obtain⟨o1,q1⟩:=hown.set0 k (s+2*(k:Int))
   obtain⟨o2,q2⟩:=o1.set1 k (s+2*(k:Int)+1)
   obtain⟨hd0,hd1⟩:=hown.at k (by rw[Own.len hown];exact t)
   have hf0:=hown.free (k*2)
   have hf1:=hown.free (k*2+1)
   rw[marked_step s ps n k hl t] at o2
   have HO:=zh o2
   have HG:=zh (grown_trans (grown_trans hg q1) q2)
   clear hown hg o1 q1 o2 q2
   generalize ((marked s ps n k).getD k (0,0)).1=z0 at hd0
   generalize ((marked s ps n k).getD k (0,0)).2=z1 at hd1
   go_wp2
   go_roundw
   case rel=>exact⟨k+1,by omega,by go_num,by go_num,zu HO,zu HG⟩
   case measure=>simp[intOf];omega
  ·obtain rfl:k=n:=by omega
   rw[marked_all s ps k hl] at hown
   have HO:=zh hown
   have HG:=zh hg
   clear hown hg
   go_wp2
   go_ret
   exact⟨rfl,zu HO,zu HG⟩
theorem heldS(w:World)(g n cap:Nat)(s:Int)(h20:n≤1048576)(s0:0≤s)(s1:s≤100000000)(h:At w g (marks s n)):
  Calls Tryz.prog 79 #[.slice (some ⟨g,0,none⟩) n cap,.int .i64 s] w fun e w'=>e= .returned (.int .i64 (s+2*(n:Int)))∧w'=w:=by
 go_enter Tryz.func79,Tryz.ntmps79
 go_wp2
 go_loop [1,5] (fun m i=>∃(k:Nat),k≤n∧i= .int .i64 k∧m= .int .i64 (s+2*(k:Int))) (fun _ i=>n-(intOf i).toNat)
 case atStart=>exact⟨0,by omega,rfl,by go_num⟩
 case round=>
  obtain⟨k,hk,rfl,rfl⟩:=hrel
  by_cases t:k<n
  ·obtain⟨e0,e1⟩:=h k (by rw[marks_len];exact t)
   rw[marks_getD s n k t] at e0 e1
   clear h
   go_wp2
   go_round
   case rel=>exact⟨k+1,by omega,by go_num,by go_num⟩
   case measure=>simp[intOf];omega
  ·obtain rfl:k=n:=by omega
   clear h
   go_wp2
   go_ret
   exact⟨rfl,rfl⟩
theorem sz_yes(a:Option Addr)(len cap:Nat)(l:Int)(w:World)(h:(len:Int)≤l)(hl:l≤1048576):
  Calls Tryz.prog 31 #[.slice a len cap,.int .i64 l] w fun e w'=>e= .returned (.int .i64 (l-(len:Int)))∧w'=w:=by
 have h1:(0:Int)≤l-(len:Int):=by omega
 have h2:wrap64 (l-(len:Int))=l-(len:Int):=by rw[wrap64];omega
 go_enter Tryz.func31,Tryz.ntmps31
 go_wp2
 go_ret
 exact⟨rfl,rfl⟩
theorem sz_no(a:Option Addr)(len cap:Nat)(l:Int)(w:World)(h:¬(len:Int)≤l)(hl:l≤1048576)(h0:0≤l)(hm:len≤9223372036854775807):
  Calls Tryz.prog 31 #[.slice a len cap,.int .i64 l] w fun e w'=>e= .returned (.int .i64 (-1))∧w'=w:=by
 have h1:l-(len:Int)<0:=by omega
 have h2:wrap64 (l-(len:Int))=l-(len:Int):=by rw[wrap64];omega
 go_enter Tryz.func31,Tryz.ntmps31
 go_wp2
 go_ret
 exact⟨rfl,rfl⟩
end InstrMark
namespace LotHelp
open Tup5
theorem info2:(Tryz.prog.info? 134).map (fun i=>(i.zero,i.size,i.bytes))=some (some (.agg #[.int .i64 0,.int .i64 0,.int .i64 0,.int .i64 0,.int .i64 0]),5,40):=by kernel_rfl
theorem to1(w:World)(x0 x1 x2 x3 x4:Int):Calls Tryz.prog 108 #[.agg #[.int .i64 x0,.int .i64 x1,.int .i64 x2,.int .i64 x3,.int .i64 x4]] w fun e w'=>e= .returned (.agg #[.int .i64 x0,.int .i64 x1,.int .i64 x2,.int .i64 x3,.int .i64 x4])∧Below w.heap.size w w':=by
 go_enter Tryz.func108,Tryz.ntmps108
 go_wp2
 refine bodyPost_ret (v:= .agg #[.int .i64 x0,.int .i64 x1,.int .i64 x2,.int .i64 x3,.int .i64 x4]) (by simp[results,Tryz.results108,go_sem]) rfl ⟨rfl,?_⟩
 exact(((Below.refl _ _).alloc (Nat.le_refl _) _).alloc (by simp) _).alloc (by simp;omega) _
theorem made(n:Nat):(madeCells (Value.agg #[.int .i64 0,.int .i64 0,.int .i64 0,.int .i64 0,.int .i64 0]).cells (n*5)).toList=flat5 (List.replicate n (0,0,0,0,0)):=by
 apply List.ext_getElem?
 intro j
 by_cases hj:j<n*5
 ·have hs:(Value.agg #[Value.int .i64 0,Value.int .i64 0,Value.int .i64 0,Value.int .i64 0,Value.int .i64 0]).cells= #[Value.int .i64 0,Value.int .i64 0,Value.int .i64 0,Value.int .i64 0,Value.int .i64 0]:=rfl
  rw[hs]
  obtain⟨f0,f1,f2,f3,f4⟩:=flat5_get (List.replicate n (0,0,0,0,0)) (j/5) (by simp;omega)
  have hg:(List.replicate n (((0:Int),(0:Int),(0:Int),(0:Int),(0:Int)):T5)).getD (j/5) (0,0,0,0,0)=(0,0,0,0,0):=by simp[List.getD,show j/5<n by omega]
  unfold el5 at f0 f1 f2 f3 f4
  rw[hg] at f0 f1 f2 f3 f4
  rcases(show j%5=0∨j%5=1∨j%5=2∨j%5=3∨j%5=4 by omega) with e|e|e|e|e
  ·rw[show j/5*5=j by omega] at f0
   rw[f0]
   simp[madeCells,hj,e]
  ·rw[show j/5*5+1=j by omega] at f1
   rw[f1]
   simp[madeCells,hj,e]
  ·rw[show j/5*5+2=j by omega] at f2
   rw[f2]
   simp[madeCells,hj,e]
  ·rw[show j/5*5+3=j by omega] at f3
   rw[f3]
   simp[madeCells,hj,e]
  ·rw[show j/5*5+4=j by omega] at f4
   rw[f4]
   simp[madeCells,hj,e]
 ·rw[List.getElem?_eq_none (by simp[madeCells];omega),List.getElem?_eq_none (by rw[flat5_len];simp;omega)]
def part(ps:List T5)(n k:Nat):List T5:=ps.take k++List.replicate (n-k) (0,0,0,0,0)
theorem part_zero(ps:List T5)(n:Nat):part ps n 0=List.replicate n (0,0,0,0,0):=by simp[part]
theorem part_all(ps:List T5)(n:Nat)(h:ps.length=n):part ps n n=ps:=by
 unfold part
 rw[←h];simp
theorem part_step(ps:List T5)(n k:Nat)(h:ps.length=n)(hk:k<n):(((((part ps n k).modify k (fun p=>((el5 ps k).1,p.2.1,p.2.2.1,p.2.2.2.1,p.2.2.2.2))).modify k (fun p=>(p.1,(el5 ps k).2.1,p.2.2.1,p.2.2.2.1,p.2.2.2.2))).modify k (fun p=>(p.1,p.2.1,(el5 ps k).2.2.1,p.2.2.2.1,p.2.2.2.2))).modify k (fun p=>(p.1,p.2.1,p.2.2.1,(el5 ps k).2.2.2.1,p.2.2.2.2))).modify k (fun p=>(p.1,p.2.1,p.2.2.1,p.2.2.2.1,(el5 ps k).2.2.2.2))=part ps n (k+1):=by
 subst h
 unfold part
 apply List.ext_getElem?
 intro j
 have l1:(ps.take k).length=k:=by simp;omega
 have l2:(ps.take (k+1)).length=k+1:=by simp;omega
 rw[List.getElem?_modify,List.getElem?_modify,List.getElem?_modify,List.getElem?_modify,List.getElem?_modify]
 by_cases e:k=j
 ·subst e
  rw[List.getElem?_append_right (by omega),List.getElem?_append_left (by omega),List.getElem?_take,if_pos (by omega),l1]
  simp[List.getD,hk,show 0<ps.length-k by omega]
 ·by_cases l:j<k
  ·rw[List.getElem?_append_left (by omega),List.getElem?_append_left (by omega),List.getElem?_take,List.getElem?_take,if_pos l,if_pos (by omega)]
   simp[e]
  ·rw[List.getElem?_append_right (by omega),List.getElem?_append_right (by omega),l1,l2]
   simp only[List.getElem?_replicate]
   by_cases m:j<ps.length
   ·rw[if_pos (by omega),if_pos (by omega)];simp[e]
   ·rw[if_neg (by omega),if_neg (by omega)];simp[e]
theorem toS(w:World)(a:Option Addr)(len cap:Nat)(ps:List T5)(hl:ps.length=len)(h20:len≤1048576)(hr:Reads5 w a ps):
  Calls Tryz.prog 56 #[.slice a len cap] w fun e w'=>e= .returned (.slice (some ⟨w.heap.size,0,none⟩) len len)∧Own5 134 w' w.heap.size w.heap.size len len ps∧Below w.heap.size w w':=by
 obtain⟨i0,hi,hz0,hz1,hz2⟩:=info_parts info2
 go_enter Tryz.func56,Tryz.ntmps56
 go_wp2_with (at_make;refine wpList_make_full _ rfl _ _ 41 rfl w.heap.size 134 i0 (.agg #[.int .i64 0,.int .i64 0,.int .i64 0,.int .i64 0,.int .i64 0]) 5 Tryz.underlying41 hi hz0 hz1 .i64 .i64 _ _ len rfl rfl rfl rfl (by rw[hz2];omega) (by unfold maxLen;omega) (Nat.le_refl _) ?_;intro w1 hown hgrow)
 rw[made,←part_zero ps] at hown
 have hb:=grownBy_below hgrow
 have hown:Own5 134 w1 w.heap.size w.heap.size len len (part ps len 0):=hown
 clear hgrow
 go_loopw [4] (fun i wr=>∃(k:Nat),k≤len∧i= .int .i64 k∧Own5 134 wr w.heap.size w.heap.size len len (part ps len k)∧Below w.heap.size w wr) (fun i _=>len-(intOf i).toNat)
 case atStart=>exact⟨0,by omega,rfl,hown,hb⟩
 case round=>
  clear hown hb
  obtain⟨k,hk,rfl,hown,hb⟩:=hrel
  by_cases t:k<len
  ·rcases hr with hz|⟨b,off,rfl,hlt,hcell⟩
   ·omega
   have hc0:=(hb.cell (p:=⟨b,off+k*5,none⟩) hlt).trans (hcell k (by omega)).1
   have hc1:=(hb.cell (p:=⟨b,off+k*5+1,none⟩) hlt).trans (hcell k (by omega)).2.1
   have hc2:=(hb.cell (p:=⟨b,off+k*5+2,none⟩) hlt).trans (hcell k (by omega)).2.2.1
   have hc3:=(hb.cell (p:=⟨b,off+k*5+3,none⟩) hlt).trans (hcell k (by omega)).2.2.2.1
   have hc4:=(hb.cell (p:=⟨b,off+k*5+4,none⟩) hlt).trans (hcell k (by omega)).2.2.2.2
   clear hcell
   have HO:=zh hown
   have HB:=zh hb
   clear hown hb
   have PS:=zh (part_step ps len k hl t)
   generalize (el5 ps k).1=x0 at *
   generalize (el5 ps k).2.1=x1 at *
   generalize (el5 ps k).2.2.1=x2 at *
   generalize (el5 ps k).2.2.2.1=x3 at *
   generalize (el5 ps k).2.2.2.2=x4 at *
   go_wp2_with fail
   refine(to1 _ x0 x1 x2 x3 x4).mono ?_
   rintro e w2 ⟨rfl,b2⟩
   have o2:=(zu HO).below b2 (zu HO).lt.2
   have hb2:=(zu HB).trans (b2.mono (zu HB).size)
   clear HO HB b2 hc0 hc1 hc2 hc3 hc4
   have hs0:=o2.set0 k x0
   have hs1:=hs0.1.set1 k x1
   have hs2:=hs1.1.set2 k x2
   have hs3:=hs2.1.set3 k x3
   have hs4:=hs3.1.set4 k x4
   have hd:=o2.at k (by rw[o2.len];exact t)
   have hd0:=hd.1
   have hd1:=hd.2.1
   have hd2:=hd.2.2.1
   have hd3:=hd.2.2.2.1
   have hd4:=hd.2.2.2.2
   have hf0:=o2.free (k*5)
   have hf1:=o2.free (k*5+1)
   have hf2:=o2.free (k*5+2)
   have hf3:=o2.free (k*5+3)
   have hf4:=o2.free (k*5+4)
   have HS:=zh hs4.1
   have HB:=zh (((((hb2.setCell (p:=⟨w.heap.size,k*5,none⟩) (Nat.le_refl _) (.int .i64 x0)).setCell (p:=⟨w.heap.size,k*5+1,none⟩) (Nat.le_refl _) (.int .i64 x1)).setCell (p:=⟨w.heap.size,k*5+2,none⟩) (Nat.le_refl _) (.int .i64 x2)).setCell (p:=⟨w.heap.size,k*5+3,none⟩) (Nat.le_refl _) (.int .i64 x3)).setCell (p:=⟨w.heap.size,k*5+4,none⟩) (Nat.le_refl _) (.int .i64 x4))
   clear hs0 hs1 hs2 hs3 hs4 hd o2 hb2
   go_wp2
   go_roundw
   case rel=>
    have o:=zu HS
    rw[zu PS] at o
    exact⟨k+1,by omega,by go_num,o,zu HB⟩
   case measure=>simp[intOf];omega
  ·obtain rfl:k=len:=by omega
   rw[part_all ps k hl] at hown
   have HO:=zh hown
   have HB:=zh hb
   clear hown hb hr
   go_wp2
   go_ret
   exact⟨rfl,zu HO,zu HB⟩
theorem eq1(w:World)(x0 x1 x2 x3 x4:Int):Calls Tryz.prog 121 #[.agg #[.int .i64 x0,.int .i64 x1,.int .i64 x2,.int .i64 x3,.int .i64 x4],.agg #[.int .i64 x0,.int .i64 x1,.int .i64 x2,.int .i64 x3,.int .i64 x4]] w fun e w'=>e= .returned (.bool true)∧w'=(w.alloc (.cells #[.int .i64 x0,.int .i64 x1,.int .i64 x2,.int .i64 x3,.int .i64 x4] 134)).alloc (.cells #[.int .i64 x0,.int .i64 x1,.int .i64 x2,.int .i64 x3,.int .i64 x4] 134):=by
 go_enter Tryz.func121,Tryz.ntmps121
 go_wp2
 go_ret
 exact⟨rfl,rfl⟩
theorem two_more(w:World)(o p:Obj):Below w.heap.size w ((w.alloc o).alloc p).drew:=(((Below.refl _ _).alloc (Nat.le_refl _) _).alloc (by simp) _).drew
theorem eqS(w:World)(g1 g2 n c1 c2:Nat)(ps:List T5)(hl:ps.length=n)(h20:n≤1048576)(l1:g1<w.heap.size)(l2:g2<w.heap.size)(h1:At5 w g1 ps)(h2:At5 w g2 ps):
  Calls Tryz.prog 69 #[.slice (some ⟨g1,0,none⟩) n c1,.slice (some ⟨g2,0,none⟩) n c2] w fun e w'=>e= .returned (.bool true)∧Below w.heap.size w w':=by
 go_enter Tryz.func69,Tryz.ntmps69
 go_wp2
 go_loopw [5] (fun i wr=>∃(k:Nat),k≤n∧i= .int .i64 k∧At5 wr g1 ps∧At5 wr g2 ps∧Below w.heap.size w wr) (fun i _=>n-(intOf i).toNat)
 case atStart=>exact⟨0,by omega,rfl,h1,h2,Below.refl _ _⟩
 case round=>
  clear h1 h2
  obtain⟨k,hk,rfl,h1,h2,hb⟩:=hrel
  by_cases t:k<n
  ·obtain⟨e0,e1,e2,e3,e4⟩:=h1 k (by omega)
   obtain⟨f0,f1,f2,f3,f4⟩:=h2 k (by omega)
   have s:=hb.size
   have H1:=zh h1
   have H2:=zh h2
   have HB:=zh hb
   clear h1 h2 hb
   generalize (el5 ps k).1=x0 at *
   generalize (el5 ps k).2.1=x1 at *
   generalize (el5 ps k).2.2.1=x2 at *
   generalize (el5 ps k).2.2.2.1=x3 at *
   generalize (el5 ps k).2.2.2.2=x4 at *
   go_wp2_with fail
   go_region_held3 (fun w'=>w'.cell? ⟨g1,k*5,none⟩=some (.int .i64 x0)∧w'.cell? ⟨g2,k*5,none⟩=some (.int .i64 x0)∧w'.cell? ⟨g1,k*5+1,none⟩=some (.int .i64 x1)∧w'.cell? ⟨g2,k*5+1,none⟩=some (.int .i64 x1)∧w'.cell? ⟨g1,k*5+2,none⟩=some (.int .i64 x2)∧w'.cell? ⟨g2,k*5+2,none⟩=some (.int .i64 x2)∧w'.cell? ⟨g1,k*5+3,none⟩=some (.int .i64 x3)∧w'.cell? ⟨g2,k*5+3,none⟩=some (.int .i64 x3)∧w'.cell? ⟨g1,k*5+4,none⟩=some (.int .i64 x4)∧w'.cell? ⟨g2,k*5+4,none⟩=some (.int .i64 x4)) (go_keep)
    (first|(go_at_call 121;refine(eq1 _ _ _ _ _ _).mono ?_;rintro e w2 ⟨rfl,rfl⟩))
   all_goals(go_wp2;go_roundw)
   all_goals first
    |(have b2:=two_more wr (.cells #[.int .i64 x0,.int .i64 x1,.int .i64 x2,.int .i64 x3,.int .i64 x4] 134) (.cells #[.int .i64 x0,.int .i64 x1,.int .i64 x2,.int .i64 x3,.int .i64 x4] 134)
      exact⟨k+1,by omega,by go_num,(zu H1).below b2 (by omega),(zu H2).below b2 (by omega),next (zu HB) b2⟩)
    |(simp[intOf];omega)
  ·have HB:=zh hb
   clear h1 h2 hb
   go_wp2
   go_ret
   exact⟨rfl,zu HB⟩
def marks(s:Int)(n:Nat):List T5:=(List.range n).map fun(i:Nat)=>(s+5*(i:Int),s+5*(i:Int)+1,s+5*(i:Int)+2,s+5*(i:Int)+3,s+5*(i:Int)+4)
theorem marks_len(s:Int)(n:Nat):(marks s n).length=n:=by simp[marks]
theorem marks_getD(s:Int)(n i:Nat)(h:i<n):el5 (marks s n) i=(s+5*(i:Int),s+5*(i:Int)+1,s+5*(i:Int)+2,s+5*(i:Int)+3,s+5*(i:Int)+4):=by simp[marks,List.getD,h]
def marked(s:Int)(ps:List T5)(n j:Nat):List T5:=(marks s n).take j++ps.drop j
theorem marked_zero(s:Int)(ps:List T5)(n:Nat):marked s ps n 0=ps:=by simp[marked]
theorem marked_all(s:Int)(ps:List T5)(n:Nat)(h:ps.length=n):marked s ps n n=marks s n:=by
 unfold marked
 rw[List.take_of_length_le (by rw[marks_len];exact Nat.le_refl _),List.drop_of_length_le (by omega),List.append_nil]
theorem marked_step(s:Int)(ps:List T5)(n j:Nat)(h:ps.length=n)(hj:j<n):(((((marked s ps n j).modify j (fun p=>(s+5*(j:Int),p.2.1,p.2.2.1,p.2.2.2.1,p.2.2.2.2))).modify j (fun p=>(p.1,s+5*(j:Int)+1,p.2.2.1,p.2.2.2.1,p.2.2.2.2))).modify j (fun p=>(p.1,p.2.1,s+5*(j:Int)+1+1,p.2.2.2.1,p.2.2.2.2))).modify j (fun p=>(p.1,p.2.1,p.2.2.1,s+5*(j:Int)+1+1+1,p.2.2.2.2))).modify j (fun p=>(p.1,p.2.1,p.2.2.1,p.2.2.2.1,s+5*(j:Int)+1+1+1+1))=marked s ps n (j+1):=by
 unfold marked
 have l:=marks_len s n
 have g:=marks_getD s n j hj
 have l1:((marks s n).take j).length=j:=by simp;omega
 have l2:((marks s n).take (j+1)).length=j+1:=by simp;omega
 apply List.ext_getElem?
 intro i
 rw[List.getElem?_modify,List.getElem?_modify,List.getElem?_modify,List.getElem?_modify,List.getElem?_modify]
 by_cases e:j=i
 ·subst e
  rw[List.getElem?_append_right (by omega),List.getElem?_append_left (by omega),List.getElem?_take,if_pos (by omega),l1]
  have hg:(marks s n)[j]?=some (s+5*(j:Int),s+5*(j:Int)+1,s+5*(j:Int)+2,s+5*(j:Int)+3,s+5*(j:Int)+4):=by
   rw[←g];simp[List.getD,l,hj]
  rw[hg]
  simp[List.getElem?_drop,h,hj]
  omega
 ·by_cases d:i<j
  ·rw[List.getElem?_append_left (by omega),List.getElem?_append_left (by omega),List.getElem?_take,List.getElem?_take,if_pos d,if_pos (by omega)]
   simp[e]
  ·rw[List.getElem?_append_right (by omega),List.getElem?_append_right (by omega),l1,l2]
   simp only[List.getElem?_drop]
   rw[show j+(i-j)=i by omega,show j+1+(i-(j+1))=i by omega]
   simp[e]
theorem markS(w:World)(base g n cap:Nat)(s:Int)(ps:List T5)(h20:n≤1048576)(s0:0≤s)(s1:s≤100000000)(ho:Own5 134 w base g n cap ps):
  Calls Tryz.prog 75 #[.slice (some ⟨g,0,none⟩) n cap,.int .i64 s] w fun e w'=>e= .returned (.int .i64 (s+5*(n:Int)))∧Own5 134 w' base g n cap (marks s n)∧w.grownBy w' (some g):=by
 have hl:=ho.len
 have ho':Own5 134 w base g n cap (marked s ps n 0):=by rw[marked_zero];exact ho
 clear ho
 go_enter Tryz.func75,Tryz.ntmps75
 go_wp2
 go_loopw [1,5] (fun m i wr=>∃(k:Nat),k≤n∧i= .int .i64 k∧m= .int .i64 (s+5*(k:Int))∧Own5 134 wr base g n cap (marked s ps n k)∧w.grownBy wr (some g)) (fun _ i _=>n-(intOf i).toNat)
 case atStart=>exact⟨0,by omega,rfl,by go_num,ho',World.grownBy.refl _ _⟩
 case round=>
  clear ho'
  obtain⟨k,hk,rfl,rfl,hown,hg⟩:=hrel
  by_cases t:k<n
  ·obtain⟨o0,q0⟩:=hown.set0 k (s+5*(k:Int))
   obtain⟨o1,q1⟩:=o0.set1 k (s+5*(k:Int)+1)
   obtain⟨o2,q2⟩:=o1.set2 k (s+5*(k:Int)+1+1)
   obtain⟨o3,q3⟩:=o2.set3 k (s+5*(k:Int)+1+1+1)
   obtain⟨o4,q4⟩:=o3.set4 k (s+5*(k:Int)+1+1+1+1)
   obtain⟨hd0,hd1,hd2,hd3,hd4⟩:=hown.at k (by rw[Own5.len hown];exact t)
   have hf0:=hown.free (k*5)
   have hf1:=hown.free (k*5+1)
   have hf2:=hown.free (k*5+2)
   have hf3:=hown.free (k*5+3)
   have hf4:=hown.free (k*5+4)
   rw[marked_step s ps n k hl t] at o4
   have HO:=zh o4
   have HG:=zh (grown_trans (grown_trans (grown_trans (grown_trans (grown_trans hg q0) q1) q2) q3) q4)
   clear hown hg o0 q0 o1 q1 o2 q2 o3 q3 o4 q4
   generalize (el5 (marked s ps n k) k).1=z0 at hd0
   generalize (el5 (marked s ps n k) k).2.1=z1 at hd1
   generalize (el5 (marked s ps n k) k).2.2.1=z2 at hd2
   generalize (el5 (marked s ps n k) k).2.2.2.1=z3 at hd3
   generalize (el5 (marked s ps n k) k).2.2.2.2=z4 at hd4
   have r1:IntKind.i64.wrap (s+5*(k:Int)+1)=s+5*(k:Int)+1:=by rw[IntKind.wrap_i64];omega
   have r2:IntKind.i64.wrap (s+5*(k:Int)+1+1)=s+5*(k:Int)+1+1:=by rw[IntKind.wrap_i64];omega
   have r3:IntKind.i64.wrap (s+5*(k:Int)+1+1+1)=s+5*(k:Int)+1+1+1:=by rw[IntKind.wrap_i64];omega
   have r4:IntKind.i64.wrap (s+5*(k:Int)+1+1+1+1)=s+5*(k:Int)+1+1+1+1:=by rw[IntKind.wrap_i64];omega
   have r5:IntKind.i64.wrap (s+5*(k:Int)+1+1+1+1+1)=s+5*(k:Int)+1+1+1+1+1:=by rw[IntKind.wrap_i64];omega
   go_wp2
   go_roundw
   case rel=>exact⟨k+1,by omega,by go_num,by go_num,zu HO,zu HG⟩
   case measure=>simp[intOf];omega
  ·obtain rfl:k=n:=by omega
   rw[marked_all s ps k hl] at hown
   have HO:=zh hown
   have HG:=zh hg
   clear hown hg
   go_wp2
   go_ret
   exact⟨rfl,zu HO,zu HG⟩
theorem sz_yes(a:Option Addr)(len cap:Nat)(l:Int)(w:World)(h:(len:Int)≤l)(hl:l≤1048576):
  Calls Tryz.prog 33 #[.slice a len cap,.int .i64 l] w fun e w'=>e= .returned (.int .i64 (l-(len:Int)))∧w'=w:=by
 have h1:(0:Int)≤l-(len:Int):=by omega
 have h2:wrap64 (l-(len:Int))=l-(len:Int):=by rw[wrap64];omega
 go_enter Tryz.func33,Tryz.ntmps33
 go_wp2
 go_ret
 exact⟨rfl,rfl⟩
theorem sz_no(a:Option Addr)(len cap:Nat)(l:Int)(w:World)(h:¬(len:Int)≤l)(hl:l≤1048576)(h0:0≤l)(hm:len≤9223372036854775807):
  Calls Tryz.prog 33 #[.slice a len cap,.int .i64 l] w fun e w'=>e= .returned (.int .i64 (-1))∧w'=w:=by
 have h1:l-(len:Int)<0:=by omega
 have h2:wrap64 (l-(len:Int))=l-(len:Int):=by rw[wrap64];omega
 go_enter Tryz.func33,Tryz.ntmps33
 go_wp2
 go_ret
 exact⟨rfl,rfl⟩
end LotHelp
namespace LotHeld
open Tup5
open LotHelp (marks marks_len marks_getD)
theorem heldS(w:World)(g n cap:Nat)(s:Int)(h20:n≤1048576)(s0:0≤s)(s1:s≤100000000)(h:At5 w g (marks s n)):
  Calls Tryz.prog 81 #[.slice (some ⟨g,0,none⟩) n cap,.int .i64 s] w fun e w'=>e= .returned (.int .i64 (s+5*(n:Int)))∧w'=w:=by
 go_enter Tryz.func81,Tryz.ntmps81
 go_wp2
 go_loop [1,5] (fun m i=>∃(k:Nat),k≤n∧i= .int .i64 k∧m= .int .i64 (s+5*(k:Int))) (fun _ i=>n-(intOf i).toNat)
 case atStart=>exact⟨0,by omega,rfl,by go_num⟩
 case round=>
  obtain⟨k,hk,rfl,rfl⟩:=hrel
  by_cases t:k<n
  ·obtain⟨e0,e1,e2,e3,e4⟩:=h k (by rw[marks_len];exact t)
   rw[marks_getD s n k t] at e0 e1 e2 e3 e4
   have e2:w.cell? ⟨g,k*5+2,none⟩=some (.int .i64 (s+5*(k:Int)+1+1)):=by rw[e2];simp;omega
   have e3:w.cell? ⟨g,k*5+3,none⟩=some (.int .i64 (s+5*(k:Int)+1+1+1)):=by rw[e3];simp;omega
   have e4:w.cell? ⟨g,k*5+4,none⟩=some (.int .i64 (s+5*(k:Int)+1+1+1+1)):=by rw[e4];simp;omega
   clear h
   go_wp2
   go_round
   case rel=>exact⟨k+1,by omega,by go_num,by go_num⟩
   case measure=>simp[intOf];omega
  ·obtain rfl:k=n:=by omega
   clear h
   go_wp2
   go_ret
   exact⟨rfl,rfl⟩
end LotHeld
namespace TradeHelp
open Tup8
theorem info2:(Tryz.prog.info? 136).map (fun i=>(i.zero,i.size,i.bytes))=some (some (.agg #[.int .i64 0,.int .i64 0,.int .i64 0,.int .i64 0,.int .i64 0,.int .i64 0,.int .i64 0,.int .i64 0]),8,64):=by kernel_rfl
theorem to1(w:World)(x0 x1 x2 x3 x4 x5 x6 x7:Int):Calls Tryz.prog 109 #[.agg #[.int .i64 x0,.int .i64 x1,.int .i64 x2,.int .i64 x3,.int .i64 x4,.int .i64 x5,.int .i64 x6,.int .i64 x7]] w fun e w'=>e= .returned (.agg #[.int .i64 x0,.int .i64 x1,.int .i64 x2,.int .i64 x3,.int .i64 x4,.int .i64 x5,.int .i64 x6,.int .i64 x7])∧Below w.heap.size w w':=by
 go_enter Tryz.func109,Tryz.ntmps109
 go_wp2
 refine bodyPost_ret (v:= .agg #[.int .i64 x0,.int .i64 x1,.int .i64 x2,.int .i64 x3,.int .i64 x4,.int .i64 x5,.int .i64 x6,.int .i64 x7]) (by simp[results,Tryz.results109,go_sem]) rfl ⟨rfl,?_⟩
 exact(((Below.refl _ _).alloc (Nat.le_refl _) _).alloc (by simp) _).alloc (by simp;omega) _
theorem made(n:Nat):(madeCells (Value.agg #[.int .i64 0,.int .i64 0,.int .i64 0,.int .i64 0,.int .i64 0,.int .i64 0,.int .i64 0,.int .i64 0]).cells (n*8)).toList=flat8 (List.replicate n (0,0,0,0,0,0,0,0)):=by
 apply List.ext_getElem?
 intro j
 by_cases hj:j<n*8
 ·have hs:(Value.agg #[Value.int .i64 0,Value.int .i64 0,Value.int .i64 0,Value.int .i64 0,Value.int .i64 0,Value.int .i64 0,Value.int .i64 0,Value.int .i64 0]).cells= #[Value.int .i64 0,Value.int .i64 0,Value.int .i64 0,Value.int .i64 0,Value.int .i64 0,Value.int .i64 0,Value.int .i64 0,Value.int .i64 0]:=rfl
  rw[hs]
  obtain⟨f0,f1,f2,f3,f4,f5,f6,f7⟩:=flat8_get (List.replicate n (0,0,0,0,0,0,0,0)) (j/8) (by simp;omega)
  have hg:(List.replicate n (((0:Int),(0:Int),(0:Int),(0:Int),(0:Int),(0:Int),(0:Int),(0:Int)):T8)).getD (j/8) (0,0,0,0,0,0,0,0)=(0,0,0,0,0,0,0,0):=by simp[List.getD,show j/8<n by omega]
  unfold el8 at f0 f1 f2 f3 f4 f5 f6 f7
  rw[hg] at f0 f1 f2 f3 f4 f5 f6 f7
  rcases(show j%8=0∨j%8=1∨j%8=2∨j%8=3∨j%8=4∨j%8=5∨j%8=6∨j%8=7 by omega) with e|e|e|e|e|e|e|e
  ·rw[show j/8*8=j by omega] at f0
   rw[f0]
   simp[madeCells,hj,e]
  ·rw[show j/8*8+1=j by omega] at f1
   rw[f1]
   simp[madeCells,hj,e]
  ·rw[show j/8*8+2=j by omega] at f2
   rw[f2]
   simp[madeCells,hj,e]
  ·rw[show j/8*8+3=j by omega] at f3
   rw[f3]
   simp[madeCells,hj,e]
  ·rw[show j/8*8+4=j by omega] at f4
   rw[f4]
   simp[madeCells,hj,e]
  ·rw[show j/8*8+5=j by omega] at f5
   rw[f5]
   simp[madeCells,hj,e]
  ·rw[show j/8*8+6=j by omega] at f6
   rw[f6]
   simp[madeCells,hj,e]
  ·rw[show j/8*8+7=j by omega] at f7
   rw[f7]
   simp[madeCells,hj,e]
 ·rw[List.getElem?_eq_none (by simp[madeCells];omega),List.getElem?_eq_none (by rw[flat8_len];simp;omega)]
def part(ps:List T8)(n k:Nat):List T8:=ps.take k++List.replicate (n-k) (0,0,0,0,0,0,0,0)
theorem part_zero(ps:List T8)(n:Nat):part ps n 0=List.replicate n (0,0,0,0,0,0,0,0):=by simp[part]
theorem part_all(ps:List T8)(n:Nat)(h:ps.length=n):part ps n n=ps:=by
 unfold part
 rw[←h];simp
theorem part_step(ps:List T8)(n k:Nat)(h:ps.length=n)(hk:k<n):((((((((part ps n k).modify k (fun p=>((el8 ps k).1,p.2.1,p.2.2.1,p.2.2.2.1,p.2.2.2.2.1,p.2.2.2.2.2.1,p.2.2.2.2.2.2.1,p.2.2.2.2.2.2.2))).modify k (fun p=>(p.1,(el8 ps k).2.1,p.2.2.1,p.2.2.2.1,p.2.2.2.2.1,p.2.2.2.2.2.1,p.2.2.2.2.2.2.1,p.2.2.2.2.2.2.2))).modify k (fun p=>(p.1,p.2.1,(el8 ps k).2.2.1,p.2.2.2.1,p.2.2.2.2.1,p.2.2.2.2.2.1,p.2.2.2.2.2.2.1,p.2.2.2.2.2.2.2))).modify k (fun p=>(p.1,p.2.1,p.2.2.1,(el8 ps k).2.2.2.1,p.2.2.2.2.1,p.2.2.2.2.2.1,p.2.2.2.2.2.2.1,p.2.2.2.2.2.2.2))).modify k (fun p=>(p.1,p.2.1,p.2.2.1,p.2.2.2.1,(el8 ps k).2.2.2.2.1,p.2.2.2.2.2.1,p.2.2.2.2.2.2.1,p.2.2.2.2.2.2.2))).modify k (fun p=>(p.1,p.2.1,p.2.2.1,p.2.2.2.1,p.2.2.2.2.1,(el8 ps k).2.2.2.2.2.1,p.2.2.2.2.2.2.1,p.2.2.2.2.2.2.2))).modify k (fun p=>(p.1,p.2.1,p.2.2.1,p.2.2.2.1,p.2.2.2.2.1,p.2.2.2.2.2.1,(el8 ps k).2.2.2.2.2.2.1,p.2.2.2.2.2.2.2))).modify k (fun p=>(p.1,p.2.1,p.2.2.1,p.2.2.2.1,p.2.2.2.2.1,p.2.2.2.2.2.1,p.2.2.2.2.2.2.1,(el8 ps k).2.2.2.2.2.2.2))=part ps n (k+1):=by
 subst h
 unfold part
 apply List.ext_getElem?
 intro j
 have l1:(ps.take k).length=k:=by simp;omega
 have l2:(ps.take (k+1)).length=k+1:=by simp;omega
 rw[List.getElem?_modify,List.getElem?_modify,List.getElem?_modify,List.getElem?_modify,List.getElem?_modify,List.getElem?_modify,List.getElem?_modify,List.getElem?_modify]
 by_cases e:k=j
 ·subst e
  rw[List.getElem?_append_right (by omega),List.getElem?_append_left (by omega),List.getElem?_take,if_pos (by omega),l1]
  simp[List.getD,hk,show 0<ps.length-k by omega]
 ·by_cases l:j<k
  ·rw[List.getElem?_append_left (by omega),List.getElem?_append_left (by omega),List.getElem?_take,List.getElem?_take,if_pos l,if_pos (by omega)]
   simp[e]
  ·rw[List.getElem?_append_right (by omega),List.getElem?_append_right (by omega),l1,l2]
   simp only[List.getElem?_replicate]
   by_cases m:j<ps.length
   ·rw[if_pos (by omega),if_pos (by omega)];simp[e]
   ·rw[if_neg (by omega),if_neg (by omega)];simp[e]
theorem toS(w:World)(a:Option Addr)(len cap:Nat)(ps:List T8)(hl:ps.length=len)(h20:len≤1048576)(hr:Reads8 w a ps):
  Calls Tryz.prog 57 #[.slice a len cap] w fun e w'=>e= .returned (.slice (some ⟨w.heap.size,0,none⟩) len len)∧Own8 136 w' w.heap.size w.heap.size len len ps∧Below w.heap.size w w':=by
 obtain⟨i0,hi,hz0,hz1,hz2⟩:=info_parts info2
 go_enter Tryz.func57,Tryz.ntmps57
 go_wp2_with (at_make;refine wpList_make_full _ rfl _ _ 42 rfl w.heap.size 136 i0 (.agg #[.int .i64 0,.int .i64 0,.int .i64 0,.int .i64 0,.int .i64 0,.int .i64 0,.int .i64 0,.int .i64 0]) 8 Tryz.underlying42 hi hz0 hz1 .i64 .i64 _ _ len rfl rfl rfl rfl (by rw[hz2];omega) (by unfold maxLen;omega) (Nat.le_refl _) ?_;intro w1 hown hgrow)
 rw[made,←part_zero ps] at hown
 have hb:=grownBy_below hgrow
 have hown:Own8 136 w1 w.heap.size w.heap.size len len (part ps len 0):=hown
 clear hgrow
 go_loopw [4] (fun i wr=>∃(k:Nat),k≤len∧i= .int .i64 k∧Own8 136 wr w.heap.size w.heap.size len len (part ps len k)∧Below w.heap.size w wr) (fun i _=>len-(intOf i).toNat)
 case atStart=>exact⟨0,by omega,rfl,hown,hb⟩
 case round=>
  clear hown hb
  obtain⟨k,hk,rfl,hown,hb⟩:=hrel
  by_cases t:k<len
  ·rcases hr with hz|⟨b,off,rfl,hlt,hcell⟩
   ·omega
   have hc0:=(hb.cell (p:=⟨b,off+k*8,none⟩) hlt).trans (hcell k (by omega)).1
   have hc1:=(hb.cell (p:=⟨b,off+k*8+1,none⟩) hlt).trans (hcell k (by omega)).2.1
   have hc2:=(hb.cell (p:=⟨b,off+k*8+2,none⟩) hlt).trans (hcell k (by omega)).2.2.1
   have hc3:=(hb.cell (p:=⟨b,off+k*8+3,none⟩) hlt).trans (hcell k (by omega)).2.2.2.1
   have hc4:=(hb.cell (p:=⟨b,off+k*8+4,none⟩) hlt).trans (hcell k (by omega)).2.2.2.2.1
   have hc5:=(hb.cell (p:=⟨b,off+k*8+5,none⟩) hlt).trans (hcell k (by omega)).2.2.2.2.2.1
   have hc6:=(hb.cell (p:=⟨b,off+k*8+6,none⟩) hlt).trans (hcell k (by omega)).2.2.2.2.2.2.1
   have hc7:=(hb.cell (p:=⟨b,off+k*8+7,none⟩) hlt).trans (hcell k (by omega)).2.2.2.2.2.2.2
   clear hcell
   have HO:=zh hown
   have HB:=zh hb
   clear hown hb
   have PS:=zh (part_step ps len k hl t)
   generalize (el8 ps k).1=x0 at *
   generalize (el8 ps k).2.1=x1 at *
   generalize (el8 ps k).2.2.1=x2 at *
   generalize (el8 ps k).2.2.2.1=x3 at *
   generalize (el8 ps k).2.2.2.2.1=x4 at *
   generalize (el8 ps k).2.2.2.2.2.1=x5 at *
   generalize (el8 ps k).2.2.2.2.2.2.1=x6 at *
   generalize (el8 ps k).2.2.2.2.2.2.2=x7 at *
   go_wp2_with fail
   refine(to1 _ x0 x1 x2 x3 x4 x5 x6 x7).mono ?_
   rintro e w2 ⟨rfl,b2⟩
   have o2:=(zu HO).below b2 (zu HO).lt.2
   have hb2:=(zu HB).trans (b2.mono (zu HB).size)
   clear HO HB b2 hc0 hc1 hc2 hc3 hc4 hc5 hc6 hc7
   have hs0:=o2.set0 k x0
   have hs1:=hs0.1.set1 k x1
   have hs2:=hs1.1.set2 k x2
   have hs3:=hs2.1.set3 k x3
   have hs4:=hs3.1.set4 k x4
   have hs5:=hs4.1.set5 k x5
   have hs6:=hs5.1.set6 k x6
   have hs7:=hs6.1.set7 k x7
   have hd:=o2.at k (by rw[o2.len];exact t)
   have hd0:=hd.1
   have hd1:=hd.2.1
   have hd2:=hd.2.2.1
   have hd3:=hd.2.2.2.1
   have hd4:=hd.2.2.2.2.1
   have hd5:=hd.2.2.2.2.2.1
   have hd6:=hd.2.2.2.2.2.2.1
   have hd7:=hd.2.2.2.2.2.2.2
   have hf0:=o2.free (k*8)
   have hf1:=o2.free (k*8+1)
   have hf2:=o2.free (k*8+2)
   have hf3:=o2.free (k*8+3)
   have hf4:=o2.free (k*8+4)
   have hf5:=o2.free (k*8+5)
   have hf6:=o2.free (k*8+6)
   have hf7:=o2.free (k*8+7)
   have HS:=zh hs7.1
   have HB:=zh ((((((((hb2.setCell (p:=⟨w.heap.size,k*8,none⟩) (Nat.le_refl _) (.int .i64 x0)).setCell (p:=⟨w.heap.size,k*8+1,none⟩) (Nat.le_refl _) (.int .i64 x1)).setCell (p:=⟨w.heap.size,k*8+2,none⟩) (Nat.le_refl _) (.int .i64 x2)).setCell (p:=⟨w.heap.size,k*8+3,none⟩) (Nat.le_refl _) (.int .i64 x3)).setCell (p:=⟨w.heap.size,k*8+4,none⟩) (Nat.le_refl _) (.int .i64 x4)).setCell (p:=⟨w.heap.size,k*8+5,none⟩) (Nat.le_refl _) (.int .i64 x5)).setCell (p:=⟨w.heap.size,k*8+6,none⟩) (Nat.le_refl _) (.int .i64 x6)).setCell (p:=⟨w.heap.size,k*8+7,none⟩) (Nat.le_refl _) (.int .i64 x7))
   clear hs0 hs1 hs2 hs3 hs4 hs5 hs6 hs7 hd o2 hb2
   go_wp2
   go_roundw
   case rel=>
    have o:=zu HS
    rw[zu PS] at o
    exact⟨k+1,by omega,by go_num,o,zu HB⟩
   case measure=>simp[intOf];omega
  ·obtain rfl:k=len:=by omega
   rw[part_all ps k hl] at hown
   have HO:=zh hown
   have HB:=zh hb
   clear hown hb hr
   go_wp2
   go_ret
   exact⟨rfl,zu HO,zu HB⟩
theorem eq1(w:World)(x0 x1 x2 x3 x4 x5 x6 x7:Int):Calls Tryz.prog 122 #[.agg #[.int .i64 x0,.int .i64 x1,.int .i64 x2,.int .i64 x3,.int .i64 x4,.int .i64 x5,.int .i64 x6,.int .i64 x7],.agg #[.int .i64 x0,.int .i64 x1,.int .i64 x2,.int .i64 x3,.int .i64 x4,.int .i64 x5,.int .i64 x6,.int .i64 x7]] w fun e w'=>e= .returned (.bool true)∧w'=(w.alloc (.cells #[.int .i64 x0,.int .i64 x1,.int .i64 x2,.int .i64 x3,.int .i64 x4,.int .i64 x5,.int .i64 x6,.int .i64 x7] 136)).alloc (.cells #[.int .i64 x0,.int .i64 x1,.int .i64 x2,.int .i64 x3,.int .i64 x4,.int .i64 x5,.int .i64 x6,.int .i64 x7] 136):=by
 go_enter Tryz.func122,Tryz.ntmps122
 go_wp2
 go_ret
 exact⟨rfl,rfl⟩
theorem two_more(w:World)(o p:Obj):Below w.heap.size w ((w.alloc o).alloc p).drew:=(((Below.refl _ _).alloc (Nat.le_refl _) _).alloc (by simp) _).drew
theorem eqS(w:World)(g1 g2 n c1 c2:Nat)(ps:List T8)(hl:ps.length=n)(h20:n≤1048576)(l1:g1<w.heap.size)(l2:g2<w.heap.size)(h1:At8 w g1 ps)(h2:At8 w g2 ps):
  Calls Tryz.prog 70 #[.slice (some ⟨g1,0,none⟩) n c1,.slice (some ⟨g2,0,none⟩) n c2] w fun e w'=>e= .returned (.bool true)∧Below w.heap.size w w':=by
 go_enter Tryz.func70,Tryz.ntmps70
 go_wp2
 go_loopw [5] (fun i wr=>∃(k:Nat),k≤n∧i= .int .i64 k∧At8 wr g1 ps∧At8 wr g2 ps∧Below w.heap.size w wr) (fun i _=>n-(intOf i).toNat)
 case atStart=>exact⟨0,by omega,rfl,h1,h2,Below.refl _ _⟩
 case round=>
  clear h1 h2
  obtain⟨k,hk,rfl,h1,h2,hb⟩:=hrel
  by_cases t:k<n
  ·obtain⟨e0,e1,e2,e3,e4,e5,e6,e7⟩:=h1 k (by omega)
   obtain⟨f0,f1,f2,f3,f4,f5,f6,f7⟩:=h2 k (by omega)
   have s:=hb.size
   have H1:=zh h1
   have H2:=zh h2
   have HB:=zh hb
   clear h1 h2 hb
   generalize (el8 ps k).1=x0 at *
   generalize (el8 ps k).2.1=x1 at *
   generalize (el8 ps k).2.2.1=x2 at *
   generalize (el8 ps k).2.2.2.1=x3 at *
   generalize (el8 ps k).2.2.2.2.1=x4 at *
   generalize (el8 ps k).2.2.2.2.2.1=x5 at *
   generalize (el8 ps k).2.2.2.2.2.2.1=x6 at *
   generalize (el8 ps k).2.2.2.2.2.2.2=x7 at *
   go_wp2_with fail
   go_region_held3 (fun w'=>w'.cell? ⟨g1,k*8,none⟩=some (.int .i64 x0)∧w'.cell? ⟨g2,k*8,none⟩=some (.int .i64 x0)∧w'.cell? ⟨g1,k*8+1,none⟩=some (.int .i64 x1)∧w'.cell? ⟨g2,k*8+1,none⟩=some (.int .i64 x1)∧w'.cell? ⟨g1,k*8+2,none⟩=some (.int .i64 x2)∧w'.cell? ⟨g2,k*8+2,none⟩=some (.int .i64 x2)∧w'.cell? ⟨g1,k*8+3,none⟩=some (.int .i64 x3)∧w'.cell? ⟨g2,k*8+3,none⟩=some (.int .i64 x3)∧w'.cell? ⟨g1,k*8+4,none⟩=some (.int .i64 x4)∧w'.cell? ⟨g2,k*8+4,none⟩=some (.int .i64 x4)∧w'.cell? ⟨g1,k*8+5,none⟩=some (.int .i64 x5)∧w'.cell? ⟨g2,k*8+5,none⟩=some (.int .i64 x5)∧w'.cell? ⟨g1,k*8+6,none⟩=some (.int .i64 x6)∧w'.cell? ⟨g2,k*8+6,none⟩=some (.int .i64 x6)∧w'.cell? ⟨g1,k*8+7,none⟩=some (.int .i64 x7)∧w'.cell? ⟨g2,k*8+7,none⟩=some (.int .i64 x7)) (go_keep)
    (first|(go_at_call 122;refine(eq1 _ _ _ _ _ _ _ _ _).mono ?_;rintro e w2 ⟨rfl,rfl⟩))
   all_goals(go_wp2;go_roundw)
   all_goals first
    |(have b2:=two_more wr (.cells #[.int .i64 x0,.int .i64 x1,.int .i64 x2,.int .i64 x3,.int .i64 x4,.int .i64 x5,.int .i64 x6,.int .i64 x7] 136) (.cells #[.int .i64 x0,.int .i64 x1,.int .i64 x2,.int .i64 x3,.int .i64 x4,.int .i64 x5,.int .i64 x6,.int .i64 x7] 136)
      exact⟨k+1,by omega,by go_num,(zu H1).below b2 (by omega),(zu H2).below b2 (by omega),next (zu HB) b2⟩)
    |(simp[intOf];omega)
  ·have HB:=zh hb
   clear h1 h2 hb
   go_wp2
   go_ret
   exact⟨rfl,zu HB⟩
def marks(s:Int)(n:Nat):List T8:=(List.range n).map fun(i:Nat)=>(s+8*(i:Int),s+8*(i:Int)+1,s+8*(i:Int)+2,s+8*(i:Int)+3,s+8*(i:Int)+4,s+8*(i:Int)+5,s+8*(i:Int)+6,s+8*(i:Int)+7)
theorem marks_len(s:Int)(n:Nat):(marks s n).length=n:=by simp[marks]
theorem marks_getD(s:Int)(n i:Nat)(h:i<n):el8 (marks s n) i=(s+8*(i:Int),s+8*(i:Int)+1,s+8*(i:Int)+2,s+8*(i:Int)+3,s+8*(i:Int)+4,s+8*(i:Int)+5,s+8*(i:Int)+6,s+8*(i:Int)+7):=by simp[marks,List.getD,h]
def marked(s:Int)(ps:List T8)(n j:Nat):List T8:=(marks s n).take j++ps.drop j
theorem marked_zero(s:Int)(ps:List T8)(n:Nat):marked s ps n 0=ps:=by simp[marked]
theorem marked_all(s:Int)(ps:List T8)(n:Nat)(h:ps.length=n):marked s ps n n=marks s n:=by
 unfold marked
 rw[List.take_of_length_le (by rw[marks_len];exact Nat.le_refl _),List.drop_of_length_le (by omega),List.append_nil]
theorem marked_step(s:Int)(ps:List T8)(n j:Nat)(h:ps.length=n)(hj:j<n):((((((((marked s ps n j).modify j (fun p=>(s+8*(j:Int),p.2.1,p.2.2.1,p.2.2.2.1,p.2.2.2.2.1,p.2.2.2.2.2.1,p.2.2.2.2.2.2.1,p.2.2.2.2.2.2.2))).modify j (fun p=>(p.1,s+8*(j:Int)+1,p.2.2.1,p.2.2.2.1,p.2.2.2.2.1,p.2.2.2.2.2.1,p.2.2.2.2.2.2.1,p.2.2.2.2.2.2.2))).modify j (fun p=>(p.1,p.2.1,s+8*(j:Int)+1+1,p.2.2.2.1,p.2.2.2.2.1,p.2.2.2.2.2.1,p.2.2.2.2.2.2.1,p.2.2.2.2.2.2.2))).modify j (fun p=>(p.1,p.2.1,p.2.2.1,s+8*(j:Int)+1+1+1,p.2.2.2.2.1,p.2.2.2.2.2.1,p.2.2.2.2.2.2.1,p.2.2.2.2.2.2.2))).modify j (fun p=>(p.1,p.2.1,p.2.2.1,p.2.2.2.1,s+8*(j:Int)+1+1+1+1,p.2.2.2.2.2.1,p.2.2.2.2.2.2.1,p.2.2.2.2.2.2.2))).modify j (fun p=>(p.1,p.2.1,p.2.2.1,p.2.2.2.1,p.2.2.2.2.1,s+8*(j:Int)+1+1+1+1+1,p.2.2.2.2.2.2.1,p.2.2.2.2.2.2.2))).modify j (fun p=>(p.1,p.2.1,p.2.2.1,p.2.2.2.1,p.2.2.2.2.1,p.2.2.2.2.2.1,s+8*(j:Int)+1+1+1+1+1+1,p.2.2.2.2.2.2.2))).modify j (fun p=>(p.1,p.2.1,p.2.2.1,p.2.2.2.1,p.2.2.2.2.1,p.2.2.2.2.2.1,p.2.2.2.2.2.2.1,s+8*(j:Int)+1+1+1+1+1+1+1))=marked s ps n (j+1):=by
 unfold marked
 have l:=marks_len s n
 have g:=marks_getD s n j hj
 have l1:((marks s n).take j).length=j:=by simp;omega
 have l2:((marks s n).take (j+1)).length=j+1:=by simp;omega
 apply List.ext_getElem?
 intro i
 rw[List.getElem?_modify,List.getElem?_modify,List.getElem?_modify,List.getElem?_modify,List.getElem?_modify,List.getElem?_modify,List.getElem?_modify,List.getElem?_modify]
 by_cases e:j=i
 ·subst e
  rw[List.getElem?_append_right (by omega),List.getElem?_append_left (by omega),List.getElem?_take,if_pos (by omega),l1]
  have hg:(marks s n)[j]?=some (s+8*(j:Int),s+8*(j:Int)+1,s+8*(j:Int)+2,s+8*(j:Int)+3,s+8*(j:Int)+4,s+8*(j:Int)+5,s+8*(j:Int)+6,s+8*(j:Int)+7):=by
   rw[←g];simp[List.getD,l,hj]
  rw[hg]
  simp[List.getElem?_drop,h,hj]
  omega
 ·by_cases d:i<j
  ·rw[List.getElem?_append_left (by omega),List.getElem?_append_left (by omega),List.getElem?_take,List.getElem?_take,if_pos d,if_pos (by omega)]
   simp[e]
  ·rw[List.getElem?_append_right (by omega),List.getElem?_append_right (by omega),l1,l2]
   simp only[List.getElem?_drop]
   rw[show j+(i-j)=i by omega,show j+1+(i-(j+1))=i by omega]
   simp[e]
theorem markS(w:World)(base g n cap:Nat)(s:Int)(ps:List T8)(h20:n≤1048576)(s0:0≤s)(s1:s≤100000000)(ho:Own8 136 w base g n cap ps):
  Calls Tryz.prog 76 #[.slice (some ⟨g,0,none⟩) n cap,.int .i64 s] w fun e w'=>e= .returned (.int .i64 (s+8*(n:Int)))∧Own8 136 w' base g n cap (marks s n)∧w.grownBy w' (some g):=by
 have hl:=ho.len
 have ho':Own8 136 w base g n cap (marked s ps n 0):=by rw[marked_zero];exact ho
 clear ho
 go_enter Tryz.func76,Tryz.ntmps76
 go_wp2
 go_loopw [1,5] (fun m i wr=>∃(k:Nat),k≤n∧i= .int .i64 k∧m= .int .i64 (s+8*(k:Int))∧Own8 136 wr base g n cap (marked s ps n k)∧w.grownBy wr (some g)) (fun _ i _=>n-(intOf i).toNat)
 case atStart=>exact⟨0,by omega,rfl,by go_num,ho',World.grownBy.refl _ _⟩
 case round=>
  clear ho'
  obtain⟨k,hk,rfl,rfl,hown,hg⟩:=hrel
  by_cases t:k<n
  ·obtain⟨o0,q0⟩:=hown.set0 k (s+8*(k:Int))
   obtain⟨o1,q1⟩:=o0.set1 k (s+8*(k:Int)+1)
   obtain⟨o2,q2⟩:=o1.set2 k (s+8*(k:Int)+1+1)
   obtain⟨o3,q3⟩:=o2.set3 k (s+8*(k:Int)+1+1+1)
   obtain⟨o4,q4⟩:=o3.set4 k (s+8*(k:Int)+1+1+1+1)
   obtain⟨o5,q5⟩:=o4.set5 k (s+8*(k:Int)+1+1+1+1+1)
   obtain⟨o6,q6⟩:=o5.set6 k (s+8*(k:Int)+1+1+1+1+1+1)
   obtain⟨o7,q7⟩:=o6.set7 k (s+8*(k:Int)+1+1+1+1+1+1+1)
   obtain⟨hd0,hd1,hd2,hd3,hd4,hd5,hd6,hd7⟩:=hown.at k (by rw[Own8.len hown];exact t)
   have hf0:=hown.free (k*8)
   have hf1:=hown.free (k*8+1)
   have hf2:=hown.free (k*8+2)
   have hf3:=hown.free (k*8+3)
   have hf4:=hown.free (k*8+4)
   have hf5:=hown.free (k*8+5)
   have hf6:=hown.free (k*8+6)
   have hf7:=hown.free (k*8+7)
   rw[marked_step s ps n k hl t] at o7
   have HO:=zh o7
   have HG:=zh (grown_trans (grown_trans (grown_trans (grown_trans (grown_trans (grown_trans (grown_trans (grown_trans hg q0) q1) q2) q3) q4) q5) q6) q7)
   clear hown hg o0 q0 o1 q1 o2 q2 o3 q3 o4 q4 o5 q5 o6 q6 o7 q7
   generalize (el8 (marked s ps n k) k).1=z0 at hd0
   generalize (el8 (marked s ps n k) k).2.1=z1 at hd1
   generalize (el8 (marked s ps n k) k).2.2.1=z2 at hd2
   generalize (el8 (marked s ps n k) k).2.2.2.1=z3 at hd3
   generalize (el8 (marked s ps n k) k).2.2.2.2.1=z4 at hd4
   generalize (el8 (marked s ps n k) k).2.2.2.2.2.1=z5 at hd5
   generalize (el8 (marked s ps n k) k).2.2.2.2.2.2.1=z6 at hd6
   generalize (el8 (marked s ps n k) k).2.2.2.2.2.2.2=z7 at hd7
   have r1:IntKind.i64.wrap (s+8*(k:Int)+1)=s+8*(k:Int)+1:=by rw[IntKind.wrap_i64];omega
   have r2:IntKind.i64.wrap (s+8*(k:Int)+1+1)=s+8*(k:Int)+1+1:=by rw[IntKind.wrap_i64];omega
   have r3:IntKind.i64.wrap (s+8*(k:Int)+1+1+1)=s+8*(k:Int)+1+1+1:=by rw[IntKind.wrap_i64];omega
   have r4:IntKind.i64.wrap (s+8*(k:Int)+1+1+1+1)=s+8*(k:Int)+1+1+1+1:=by rw[IntKind.wrap_i64];omega
   have r5:IntKind.i64.wrap (s+8*(k:Int)+1+1+1+1+1)=s+8*(k:Int)+1+1+1+1+1:=by rw[IntKind.wrap_i64];omega
   have r6:IntKind.i64.wrap (s+8*(k:Int)+1+1+1+1+1+1)=s+8*(k:Int)+1+1+1+1+1+1:=by rw[IntKind.wrap_i64];omega
   have r7:IntKind.i64.wrap (s+8*(k:Int)+1+1+1+1+1+1+1)=s+8*(k:Int)+1+1+1+1+1+1+1:=by rw[IntKind.wrap_i64];omega
   have r8:IntKind.i64.wrap (s+8*(k:Int)+1+1+1+1+1+1+1+1)=s+8*(k:Int)+1+1+1+1+1+1+1+1:=by rw[IntKind.wrap_i64];omega
   go_wp2
   go_roundw
   case rel=>exact⟨k+1,by omega,by go_num,by go_num,zu HO,zu HG⟩
   case measure=>simp[intOf];omega
  ·obtain rfl:k=n:=by omega
   rw[marked_all s ps k hl] at hown
   have HO:=zh hown
   have HG:=zh hg
   clear hown hg
   go_wp2
   go_ret
   exact⟨rfl,zu HO,zu HG⟩
theorem sz_yes(a:Option Addr)(len cap:Nat)(l:Int)(w:World)(h:(len:Int)≤l)(hl:l≤1048576):
  Calls Tryz.prog 34 #[.slice a len cap,.int .i64 l] w fun e w'=>e= .returned (.int .i64 (l-(len:Int)))∧w'=w:=by
 have h1:(0:Int)≤l-(len:Int):=by omega
 have h2:wrap64 (l-(len:Int))=l-(len:Int):=by rw[wrap64];omega
 go_enter Tryz.func34,Tryz.ntmps34
 go_wp2
 go_ret
 exact⟨rfl,rfl⟩
theorem sz_no(a:Option Addr)(len cap:Nat)(l:Int)(w:World)(h:¬(len:Int)≤l)(hl:l≤1048576)(h0:0≤l)(hm:len≤9223372036854775807):
  Calls Tryz.prog 34 #[.slice a len cap,.int .i64 l] w fun e w'=>e= .returned (.int .i64 (-1))∧w'=w:=by
 have h1:l-(len:Int)<0:=by omega
 have h2:wrap64 (l-(len:Int))=l-(len:Int):=by rw[wrap64];omega
 go_enter Tryz.func34,Tryz.ntmps34
 go_wp2
 go_ret
 exact⟨rfl,rfl⟩
end TradeHelp
namespace TradeHeld
open Tup8
open TradeHelp (marks marks_len marks_getD)
theorem heldS(w:World)(g n cap:Nat)(s:Int)(h20:n≤1048576)(s0:0≤s)(s1:s≤100000000)(h:At8 w g (marks s n)):
  Calls Tryz.prog 82 #[.slice (some ⟨g,0,none⟩) n cap,.int .i64 s] w fun e w'=>e= .returned (.int .i64 (s+8*(n:Int)))∧w'=w:=by
 go_enter Tryz.func82,Tryz.ntmps82
 go_wp2
 go_loop [1,5] (fun m i=>∃(k:Nat),k≤n∧i= .int .i64 k∧m= .int .i64 (s+8*(k:Int))) (fun _ i=>n-(intOf i).toNat)
 case atStart=>exact⟨0,by omega,rfl,by go_num⟩
 case round=>
  obtain⟨k,hk,rfl,rfl⟩:=hrel
  by_cases t:k<n
  ·obtain⟨e0,e1,e2,e3,e4,e5,e6,e7⟩:=h k (by rw[marks_len];exact t)
   rw[marks_getD s n k t] at e0 e1 e2 e3 e4 e5 e6 e7
   have e2:w.cell? ⟨g,k*8+2,none⟩=some (.int .i64 (s+8*(k:Int)+1+1)):=by rw[e2];simp;omega
   have e3:w.cell? ⟨g,k*8+3,none⟩=some (.int .i64 (s+8*(k:Int)+1+1+1)):=by rw[e3];simp;omega
   have e4:w.cell? ⟨g,k*8+4,none⟩=some (.int .i64 (s+8*(k:Int)+1+1+1+1)):=by rw[e4];simp;omega
   have e5:w.cell? ⟨g,k*8+5,none⟩=some (.int .i64 (s+8*(k:Int)+1+1+1+1+1)):=by rw[e5];simp;omega
   have e6:w.cell? ⟨g,k*8+6,none⟩=some (.int .i64 (s+8*(k:Int)+1+1+1+1+1+1)):=by rw[e6];simp;omega
   have e7:w.cell? ⟨g,k*8+7,none⟩=some (.int .i64 (s+8*(k:Int)+1+1+1+1+1+1+1)):=by rw[e7];simp;omega
   clear h
   go_wp2
   go_round
   case rel=>exact⟨k+1,by omega,by go_num,by go_num⟩
   case measure=>simp[intOf];omega
  ·obtain rfl:k=n:=by omega
   clear h
   go_wp2
   go_ret
   exact⟨rfl,rfl⟩
end TradeHeld
end Go.Proofs.YtppkkmaoaiopaaaGreat
