/- Texts of one proof. -/
import Derived.Test.YtlbgfdpcgpijhaaGreatQA2
open Go.ChangeShapes Go.WideShapes Go.ChangeAt Go.RowKit
set_option linter.unusedVariables false
set_option linter.unusedSimpArgs false
set_option maxRecDepth 100000
set_option maxHeartbeats 32000000
namespace Go.Proofs.YtlbgfdpcgpijhaaGreat
namespace HelpF14
open Fil14
theorem info2:(Tryz.prog.info? 64).map (fun i=>(i.zero,i.size,i.bytes))=some (some (.agg #[.int .i64 0,.string ByteArray.empty,.string ByteArray.empty]),3,40):=by kernel_rfl
theorem to1(w:World)(x:Int)(y z:ByteArray):Calls Tryz.prog 140 #[.agg #[.int .i64 x,.string y,.string z]] w fun e w'=>e= .returned (.agg #[.int .i64 x,.string y,.string z])∧Below w.heap.size w w':=by
 go_enter Tryz.func140,Tryz.ntmps140
 go_wp2
 refine bodyPost_ret (v:= .agg #[.int .i64 x,.string y,.string z]) (by simp[results,Tryz.results140,go_sem]) rfl ⟨rfl,?_⟩
 exact(((Below.refl _ _).alloc (Nat.le_refl _) _).alloc (by simp) _).alloc (by simp;omega) _
theorem made_triples(n:Nat):(madeCells (Value.agg #[.int .i64 0,.string ByteArray.empty,.string ByteArray.empty]).cells (n*3)).toList=flatF (List.replicate n (0,ByteArray.empty,ByteArray.empty)):=by
 apply List.ext_getElem?
 intro j
 by_cases hj:j<n*3
 ·have hs:(Value.agg #[Value.int .i64 0,Value.string ByteArray.empty,Value.string ByteArray.empty]).cells= #[Value.int .i64 0,Value.string ByteArray.empty,Value.string ByteArray.empty]:=rfl
  rw[hs]
  obtain⟨f0,f1,f2⟩:=flatF_get (List.replicate n (0,ByteArray.empty,ByteArray.empty)) (j/3) (by simp;omega)
  have hg:(List.replicate n ((0:Int),ByteArray.empty,ByteArray.empty)).getD (j/3) (0,ByteArray.empty,ByteArray.empty)=(0,ByteArray.empty,ByteArray.empty):=by simp[List.getD,show j/3<n by omega]
  unfold elF at f0 f1 f2
  rw[hg] at f0 f1 f2
  rcases(show j%3=0∨j%3=1∨j%3=2 by omega) with e|e|e
  ·rw[show j/3*3=j by omega] at f0
   rw[f0]
   simp[madeCells,hj,e]
  ·rw[show j/3*3+1=j by omega] at f1
   rw[f1]
   simp[madeCells,hj,e]
  ·rw[show j/3*3+2=j by omega] at f2
   rw[f2]
   simp[madeCells,hj,e]
 ·rw[List.getElem?_eq_none (by simp[madeCells];omega),List.getElem?_eq_none (by rw[flatF_len];simp;omega)]
def part(ps:List TF)(n k:Nat):List TF:=ps.take k++List.replicate (n-k) (0,ByteArray.empty,ByteArray.empty)
theorem part_zero(ps:List TF)(n:Nat):part ps n 0=List.replicate n (0,ByteArray.empty,ByteArray.empty):=by simp[part]
theorem part_all(ps:List TF)(n:Nat)(h:ps.length=n):part ps n n=ps:=by
 unfold part
 rw[←h];simp
theorem part_step(ps:List TF)(n k:Nat)(h:ps.length=n)(hk:k<n):(((part ps n k).modify k fun p=>((elF ps k).1,p.2)).modify k (fun p=>(p.1,(elF ps k).2.1,p.2.2))).modify k (fun p=>(p.1,p.2.1,(elF ps k).2.2))=part ps n (k+1):=by
 subst h
 unfold part
 apply List.ext_getElem?
 intro j
 have l1:(ps.take k).length=k:=by simp;omega
 have l2:(ps.take (k+1)).length=k+1:=by simp;omega
 rw[List.getElem?_modify,List.getElem?_modify,List.getElem?_modify]
 by_cases e:k=j
 ·subst e
  rw[List.getElem?_append_right (by omega),List.getElem?_append_left (by omega),List.getElem?_take,if_pos (by omega),l1]
  simp[List.getD,hk,show 0<ps.length-k by omega]
 ·by_cases l:j<k
  ·rw[List.getElem?_append_left (by omega),List.getElem?_append_left (by omega),List.getElem?_take,List.getElem?_take,if_pos l,if_pos (by omega)]
   simp[e]
  ·rw[List.getElem?_append_right (by omega),List.getElem?_append_right (by omega),l1,l2]
   simp only[List.getElem?_replicate]
   by_cases m:j<ps.length
   ·rw[if_pos (by omega),if_pos (by omega)];simp[e]
   ·rw[if_neg (by omega),if_neg (by omega)];simp[e]
theorem toS(w:World)(a:Option Addr)(len cap:Nat)(ps:List TF)(hl:ps.length=len)(h20:len≤1048576)(hr:ReadsF w a ps):
  Calls Tryz.prog 77 #[.slice a len cap] w fun e w'=>e= .returned (.slice (some ⟨w.heap.size,0,none⟩) len len)∧OwnF 64 w' w.heap.size w.heap.size len len ps∧Below w.heap.size w w':=by
 obtain⟨i0,hi,hz0,hz1,hz2⟩:=info_parts info2
 go_enter Tryz.func77,Tryz.ntmps77
 go_wp2_with (at_make;refine wpList_make_full _ rfl _ _ 36 rfl w.heap.size 64 i0 (.agg #[.int .i64 0,.string ByteArray.empty,.string ByteArray.empty]) 3 Tryz.underlying36 hi hz0 hz1 .i64 .i64 _ _ len rfl rfl rfl rfl (by rw[hz2];omega) (by unfold maxLen;omega) (Nat.le_refl _) ?_;intro w1 hown hgrow)
 rw[made_triples,←part_zero ps] at hown
 have hb:=grownBy_below hgrow
 have hown:OwnF 64 w1 w.heap.size w.heap.size len len (part ps len 0):=hown
 clear hgrow
 go_loopw [4] (fun i wr=>∃(k:Nat),k≤len∧i= .int .i64 k∧OwnF 64 wr w.heap.size w.heap.size len len (part ps len k)∧Below w.heap.size w wr) (fun i _=>len-(intOf i).toNat)
 case atStart=>exact⟨0,by omega,rfl,hown,hb⟩
 case round=>
  clear hown hb
  obtain⟨k,hk,rfl,hown,hb⟩:=hrel
  by_cases t:k<len
  ·rcases hr with hz|⟨b,off,rfl,hlt,hcell⟩
   ·omega
   have hc0:=(hb.cell (p:=⟨b,off+k*3,none⟩) hlt).trans (hcell k (by omega)).1
   have hc1:=(hb.cell (p:=⟨b,off+k*3+1,none⟩) hlt).trans (hcell k (by omega)).2.1
   have hc2:=(hb.cell (p:=⟨b,off+k*3+2,none⟩) hlt).trans (hcell k (by omega)).2.2
   clear hcell
   have HO:=zh hown
   have HB:=zh hb
   clear hown hb
   have PS:=zh (part_step ps len k hl t)
   generalize (elF ps k).1=x at *
   generalize (elF ps k).2.1=y at *
   generalize (elF ps k).2.2=z at *
   go_wp2_with fail
   refine(to1 _ x y z).mono ?_
   rintro e w2 ⟨rfl,b2⟩
   have o2:=(zu HO).below b2 (zu HO).lt.2
   have hb2:=(zu HB).trans (b2.mono (zu HB).size)
   clear HO HB b2 hc0 hc1 hc2
   have hs:=o2.set0 k x
   have hs2:=hs.1.set1 k y
   have hs3:=hs2.1.set2 k z
   have hd:=o2.at k (by rw[o2.len];exact t)
   have hd0:=hd.1
   have hd1:=hd.2.1
   have hd2:=hd.2.2
   have hf0:=o2.free (k*3)
   have hf1:=o2.free (k*3+1)
   have hf2:=o2.free (k*3+2)
   have HS:=zh hs3.1
   have HB:=zh (((hb2.setCell (p:=⟨w.heap.size,k*3,none⟩) (Nat.le_refl _) (.int .i64 x)).setCell (p:=⟨w.heap.size,k*3+1,none⟩) (Nat.le_refl _) (.string y)).setCell (p:=⟨w.heap.size,k*3+2,none⟩) (Nat.le_refl _) (.string z))
   clear hs hs2 hs3 hd o2 hb2
   go_wp2
   go_roundw
   case rel=>
    have o:=zu HS
    rw[zu PS] at o
    exact⟨k+1,by omega,by go_num,o,zu HB⟩
   case measure=>simp[intOf];omega
  ·obtain rfl:k=len:=by omega
   rw[part_all ps k hl] at hown
   have HO:=zh hown
   have HB:=zh hb
   clear hown hb hr
   go_wp2
   go_ret
   exact⟨rfl,zu HO,zu HB⟩
theorem eq1(w:World)(x:Int)(y z:ByteArray):Calls Tryz.prog 162 #[.agg #[.int .i64 x,.string y,.string z],.agg #[.int .i64 x,.string y,.string z]] w fun e w'=>e= .returned (.bool true)∧w'=(w.alloc (.cells #[.int .i64 x,.string y,.string z] 64)).alloc (.cells #[.int .i64 x,.string y,.string z] 64):=by
 go_enter Tryz.func162,Tryz.ntmps162
 go_wp2
 go_ret
 exact⟨rfl,rfl⟩
theorem two_more(w:World)(o p:Obj):Below w.heap.size w ((w.alloc o).alloc p).drew:=(((Below.refl _ _).alloc (Nat.le_refl _) _).alloc (by simp) _).drew
theorem eqS(w:World)(g1 g2 n c1 c2:Nat)(ps:List TF)(hl:ps.length=n)(h20:n≤1048576)(l1:g1<w.heap.size)(l2:g2<w.heap.size)(h1:AtF w g1 ps)(h2:AtF w g2 ps):
  Calls Tryz.prog 96 #[.slice (some ⟨g1,0,none⟩) n c1,.slice (some ⟨g2,0,none⟩) n c2] w fun e w'=>e= .returned (.bool true)∧Below w.heap.size w w':=by
 go_enter Tryz.func96,Tryz.ntmps96
 go_wp2
 go_loopw [5] (fun i wr=>∃(k:Nat),k≤n∧i= .int .i64 k∧AtF wr g1 ps∧AtF wr g2 ps∧Below w.heap.size w wr) (fun i _=>n-(intOf i).toNat)
 case atStart=>exact⟨0,by omega,rfl,h1,h2,Below.refl _ _⟩
 case round=>
  clear h1 h2
  obtain⟨k,hk,rfl,h1,h2,hb⟩:=hrel
  by_cases t:k<n
  ·obtain⟨e1,f1,i1⟩:=h1 k (by omega)
   obtain⟨e2,f2,i2⟩:=h2 k (by omega)
   have s:=hb.size
   have H1:=zh h1
   have H2:=zh h2
   have HB:=zh hb
   clear h1 h2 hb
   generalize (elF ps k).1=x at *
   generalize (elF ps k).2.1=y at *
   generalize (elF ps k).2.2=z at *
   go_wp2_with fail
   go_region_held3 (fun w'=>w'.cell? ⟨g1,k*3,none⟩=some (.int .i64 x)∧w'.cell? ⟨g2,k*3,none⟩=some (.int .i64 x)∧w'.cell? ⟨g1,k*3+1,none⟩=some (.string y)∧w'.cell? ⟨g2,k*3+1,none⟩=some (.string y)∧w'.cell? ⟨g1,k*3+2,none⟩=some (.string z)∧w'.cell? ⟨g2,k*3+2,none⟩=some (.string z)) (go_keep)
    (first|(go_at_call 162;refine(eq1 _ _ _ _).mono ?_;rintro e w2 ⟨rfl,rfl⟩))
   all_goals(go_wp2;go_roundw)
   all_goals first
    |(have b2:=two_more wr (.cells #[.int .i64 x,.string y,.string z] 64) (.cells #[.int .i64 x,.string y,.string z] 64)
      exact⟨k+1,by omega,by go_num,(zu H1).below b2 (by omega),(zu H2).below b2 (by omega),next (zu HB) b2⟩)
    |(simp[intOf];omega)
  ·have HB:=zh hb
   clear h1 h2 hb
   go_wp2
   go_ret
   exact⟨rfl,zu HB⟩
end HelpF14
end Go.Proofs.YtlbgfdpcgpijhaaGreat
