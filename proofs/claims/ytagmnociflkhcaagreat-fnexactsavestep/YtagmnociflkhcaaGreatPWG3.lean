/- Texts of one proof, one behind the other: MarkFS14, DkH14, SDk14, SOk14, SRd14, Conv15, SegP15, App14, SLess14, SCopy14, SRef14, SCom14, SSg16, Opens, Opens3, Opens5, Opens8, OpensB, Bx16, INums13, IIndex8, ITradesFit, VOB, IPuts11, IPut11, ICheck11, ISum11, ConB11, ISeal11, Con16, IFile14, ISg15. -/
import Derived.Test.YtagmnociflkhcaaGreatRows
import Derived.Test.YtagmnociflkhcaaGreatPWG1
import Derived.Test.YtagmnociflkhcaaGreatPWG2
import Derived.Deep.RegionHeld3
import Derived.Lib.ConvBytes
import Derived.Laws.BytesArg
import Derived.Maps.AppendAt
import Derived.Deep.SlicePairs
import Derived.Lib.SmallJoins
import Derived.Deep.Slices
import Derived.Deep.Strs
import Derived.Handy
import Derived.Lib.AppendZerosOnto
import Derived.Lib.AppendZeros
set_option linter.unusedVariables false
set_option linter.unusedSimpArgs false
open Go.ChangeShapes Go.WideShapes Go.ChangeAt Go.RowKit
set_option maxRecDepth 100000
set_option maxHeartbeats 32000000
namespace Go.Proofs.YtagmnociflkhcaaGreat
namespace MarkFS14
open Fil14 MarkF14
def marks(s:Int)(n:Nat):List TF:=(List.range n).map fun(i:Nat)=>(s+3*(i:Int),mt (s+3*(i:Int)+1),mt (s+3*(i:Int)+2))
theorem marks_len(s:Int)(n:Nat):(marks s n).length=n:=by simp[marks]
theorem marks_getD(s:Int)(n i:Nat)(h:i<n):elF (marks s n) i=(s+3*(i:Int),mt (s+3*(i:Int)+1),mt (s+3*(i:Int)+2)):=by simp[marks,List.getD,h]
def marked(s:Int)(ps:List TF)(n j:Nat):List TF:=(marks s n).take j++ps.drop j
theorem marked_zero(s:Int)(ps:List TF)(n:Nat):marked s ps n 0=ps:=by simp[marked]
theorem marked_all(s:Int)(ps:List TF)(n:Nat)(h:ps.length=n):marked s ps n n=marks s n:=by
 unfold marked
 rw[List.take_of_length_le (by rw[marks_len];exact Nat.le_refl _),List.drop_of_length_le (by omega),List.append_nil]
theorem marked_step(s:Int)(ps:List TF)(n j:Nat)(h:ps.length=n)(hj:j<n):(((marked s ps n j).modify j fun p=>(s+3*(j:Int),p.2)).modify j (fun p=>(p.1,mt (s+3*(j:Int)+1),p.2.2))).modify j (fun p=>(p.1,p.2.1,mt (s+3*(j:Int)+2)))=marked s ps n (j+1):=by
 unfold marked
 have l:=marks_len s n
 have g:=marks_getD s n j hj
 have l1:((marks s n).take j).length=j:=by simp;omega
 have l2:((marks s n).take (j+1)).length=j+1:=by simp;omega
 apply List.ext_getElem?
 intro i
 rw[List.getElem?_modify,List.getElem?_modify,List.getElem?_modify]
 by_cases e:j=i
 ·subst e
  rw[List.getElem?_append_right (by omega),List.getElem?_append_left (by omega),List.getElem?_take,if_pos (by omega),l1]
  have hg:(marks s n)[j]?=some (s+3*(j:Int),mt (s+3*(j:Int)+1),mt (s+3*(j:Int)+2)):=by
   rw[←g];simp[List.getD,l,hj]
  rw[hg]
  simp[List.getElem?_drop,h,hj]
 ·by_cases d:i<j
  ·rw[List.getElem?_append_left (by omega),List.getElem?_append_left (by omega),List.getElem?_take,List.getElem?_take,if_pos d,if_pos (by omega)]
   simp[e]
  ·rw[List.getElem?_append_right (by omega),List.getElem?_append_right (by omega),l1,l2]
   simp only[List.getElem?_drop]
   rw[show j+(i-j)=i by omega,show j+1+(i-(j+1))=i by omega]
   simp[e]
theorem markS(w:World)(base g n cap:Nat)(s:Int)(ps:List TF)(h20:n≤1048576)(s0:1≤s)(s1:s≤90000000)(hb0:base≤w.heap.size)(ho:OwnF 120 w base g n cap ps):
  Calls Tryz.prog 48 #[.slice (some ⟨g,0,none⟩) n cap,.int .i64 s] w fun e w'=>e= .returned (.int .i64 (s+3*(n:Int)))∧OwnF 120 w' base g n cap (marks s n)∧w.grownBy w' (some g):=by
 have hl:=ho.len
 have ho':OwnF 120 w base g n cap (marked s ps n 0):=by rw[marked_zero];exact ho
 clear ho
 go_enter Tryz.func48,Tryz.ntmps48
 go_wp2
 go_loopw [1,5] (fun m i wr=>∃(k:Nat),k≤n∧i= .int .i64 k∧m= .int .i64 (s+3*(k:Int))∧OwnF 120 wr base g n cap (marked s ps n k)∧w.grownBy wr (some g)) (fun _ i _=>n-(intOf i).toNat)
 case atStart=>exact⟨0,by omega,rfl,by go_num,ho',World.grownBy.refl _ _⟩
 case round=>
  clear ho'
  obtain⟨k,hk,rfl,rfl,hown,hg⟩:=hrel
  by_cases t:k<n
  ·obtain⟨o1,q1⟩:=hown.set0 k (s+3*(k:Int))
   obtain⟨hd0,hd1,hd2⟩:=hown.at k (by rw[OwnF.len hown];exact t)
   have hf0:=hown.free (k*3)
   have HO1:=zh o1
   have HG1:=zh (grown_trans hg q1)
   have ms:=marked_step s ps n k hl t
   rw[show s+3*(k:Int)+2=s+3*(k:Int)+1+1 by omega] at ms
   have MS:=zh ms
   clear ms
   clear hown hg o1 q1 hd1 hd2
   generalize (elF (marked s ps n k) k).1=z0 at hd0
   generalize marked s ps n k=mk at *
   have r1:IntKind.i64.wrap (s+3*(k:Int)+1)=s+3*(k:Int)+1:=by rw[IntKind.wrap_i64];omega
   have r2:IntKind.i64.wrap (s+3*(k:Int)+1+1)=s+3*(k:Int)+1+1:=by rw[IntKind.wrap_i64];omega
   have r3:IntKind.i64.wrap (s+3*(k:Int)+1+1+1)=s+3*(k:Int)+1+1+1:=by rw[IntKind.wrap_i64];omega
   go_wp2_with fail
   refine(markT _ (s+3*(k:Int)+1) (by omega) (by omega)).mono ?_
   rintro e u1 ⟨rfl,bb⟩
   have a1:=(zu HO1).below bb (zu HO1).lt.2
   have G2:=zh (grown_trans (zu HG1) ⟨bb.os,bb.tape,bb.output,bb.size,fun i hi _=>bb.block i hi⟩)
   obtain⟨o2,q2⟩:=a1.set1 k (mt (s+3*(k:Int)+1))
   obtain⟨_,hd1,_⟩:=a1.at k (by rw[OwnF.len a1];exact t)
   have hf1:=a1.free (k*3+1)
   have HO2:=zh o2
   have HG2:=zh (grown_trans (zu G2) q2)
   clear bb a1 o2 q2 G2 HO1 HG1 hd0 hf0
   generalize (elF (mk.modify k fun p=>(s+3*(k:Int),p.2)) k).2.1=z1 at hd1
   generalize mk.modify k (fun p=>(s+3*(k:Int),p.2))=mk1 at *
   go_wp2_with fail
   refine(markT _ (s+3*(k:Int)+1+1) (by omega) (by omega)).mono ?_
   rintro e u2 ⟨rfl,bb⟩
   have a2:=(zu HO2).below bb (zu HO2).lt.2
   have G3:=zh (grown_trans (zu HG2) ⟨bb.os,bb.tape,bb.output,bb.size,fun i hi _=>bb.block i hi⟩)
   obtain⟨o3,q3⟩:=a2.set2 k (mt (s+3*(k:Int)+1+1))
   obtain⟨_,_,hd2⟩:=a2.at k (by rw[OwnF.len a2];exact t)
   have hf2:=a2.free (k*3+2)
   have HO3:=zh o3
   have HG3:=zh (grown_trans (zu G3) q3)
   clear bb a2 o3 q3 G3 HO2 HG2 hd1 hf1
   generalize (elF (mk1.modify k fun p=>(p.1,mt (s+3*(k:Int)+1),p.2.2)) k).2.2=z2 at hd2
   go_wp2
   go_roundw
   case rel=>exact⟨k+1,by omega,by go_num,by go_num,by have h:=zu HO3;rw[zu MS] at h;exact h,zu HG3⟩
   case measure=>simp[intOf];omega
  ·obtain rfl:k=n:=by omega
   rw[marked_all s ps k hl] at hown
   have HO:=zh hown
   have HG:=zh hg
   clear hown hg
   go_wp2
   go_ret
   exact⟨rfl,zu HO,zu HG⟩
abbrev oP0:Oper:={dst:=some 21,op:=Go.Op.move (Go.Operand.tmp 0),type:=50,pos:= "exact.go:1083",after:= #[],guard:=none}
abbrev oP1:Oper:={dst:=some 22,op:=Go.Op.move (Go.Operand.tmp 5),type:=3,pos:= "exact.go:1083",after:= #[],guard:=none}
abbrev oP2:Oper:={dst:=some 23,op:=Go.Op.indexAddr 50 (Go.Operand.tmp 21) (Go.Operand.tmp 22),type:=0,pos:= "exact.go:1083",after:= #[{on:=0,ground:=Go.Ground.data},{on:=1,ground:=Go.Ground.data}],guard:=none}
abbrev oP3:Oper:={dst:=some 24,op:=Go.Op.fieldAddr 120 (Go.Operand.tmp 23) 1,type:=0,pos:= "exact.go:1083",after:= #[{on:=2,ground:=Go.Ground.data}],guard:=none}
abbrev oP4:Oper:={dst:=some 25,op:=Go.Op.load 9 (Go.Operand.tmp 24),type:=9,pos:= "exact.go:1083",after:= #[{on:=3,ground:=Go.Ground.data}],guard:=none}
abbrev oP5:Oper:={dst:=some 26,op:=Go.Op.move (Go.Operand.tmp 1),type:=3,pos:= "exact.go:1083",after:= #[],guard:=none}
abbrev oP6:Oper:={dst:=some 27,op:=Go.Op.call {callee:=Go.Callee.value (Go.Operand.func 89),args:= #[Go.Operand.tmp 26],argTypes:= #[3]},type:=9,pos:= "exact.go:1083",after:= #[{on:=5,ground:=Go.Ground.data}],guard:=none}
abbrev oP7:Oper:={dst:=some 28,op:=Go.Op.binOp Go.BinOp.neq 9 (Go.Operand.tmp 25) (Go.Operand.tmp 27) 9,type:=4,pos:= "exact.go:1083",after:= #[{on:=4,ground:=Go.Ground.data},{on:=6,ground:=Go.Ground.data}],guard:=none}
abbrev oQ0:Oper:={dst:=some 31,op:=Go.Op.move (Go.Operand.tmp 0),type:=50,pos:= "exact.go:1087",after:= #[],guard:=none}
abbrev oQ1:Oper:={dst:=some 32,op:=Go.Op.move (Go.Operand.tmp 5),type:=3,pos:= "exact.go:1087",after:= #[],guard:=none}
abbrev oQ2:Oper:={dst:=some 33,op:=Go.Op.indexAddr 50 (Go.Operand.tmp 31) (Go.Operand.tmp 32),type:=0,pos:= "exact.go:1087",after:= #[{on:=0,ground:=Go.Ground.data},{on:=1,ground:=Go.Ground.data}],guard:=none}
abbrev oQ3:Oper:={dst:=some 34,op:=Go.Op.fieldAddr 120 (Go.Operand.tmp 33) 2,type:=0,pos:= "exact.go:1087",after:= #[{on:=2,ground:=Go.Ground.data}],guard:=none}
abbrev oQ4:Oper:={dst:=some 35,op:=Go.Op.load 9 (Go.Operand.tmp 34),type:=9,pos:= "exact.go:1087",after:= #[{on:=3,ground:=Go.Ground.data}],guard:=none}
abbrev oQ5:Oper:={dst:=some 36,op:=Go.Op.move (Go.Operand.tmp 1),type:=3,pos:= "exact.go:1087",after:= #[],guard:=none}
abbrev oQ6:Oper:={dst:=some 37,op:=Go.Op.call {callee:=Go.Callee.value (Go.Operand.func 89),args:= #[Go.Operand.tmp 36],argTypes:= #[3]},type:=9,pos:= "exact.go:1087",after:= #[{on:=5,ground:=Go.Ground.data}],guard:=none}
abbrev oQ7:Oper:={dst:=some 38,op:=Go.Op.binOp Go.BinOp.neq 9 (Go.Operand.tmp 35) (Go.Operand.tmp 37) 9,type:=4,pos:= "exact.go:1087",after:= #[{on:=4,ground:=Go.Ground.data},{on:=6,ground:=Go.Ground.data}],guard:=none}
theorem heldS(w:World)(g n cap:Nat)(s:Int)(h20:n≤1048576)(s0:1≤s)(s1:s≤90000000)(lg:g<w.heap.size)(h:AtF w g (marks s n)):
  Calls Tryz.prog 50 #[.slice (some ⟨g,0,none⟩) n cap,.int .i64 s] w fun e w'=>e= .returned (.int .i64 (s+3*(n:Int)))∧Below w.heap.size w w':=by
 have H:=zh h
 clear h
 go_enter Tryz.func50,Tryz.ntmps50
 go_wp2
 go_loopw [1,5] (fun m i wr=>∃(k:Nat),k≤n∧i= .int .i64 k∧m= .int .i64 (s+3*(k:Int))∧Hid (Below w.heap.size w wr)) (fun _ i _=>n-(intOf i).toNat)
 case atStart=>exact⟨0,by omega,rfl,by go_num,zh (Below.refl _ _)⟩
 case round=>
  obtain⟨k,hk,rfl,rfl,HB⟩:=hrel
  by_cases t:k<n
  ·obtain⟨e1,e2,e3⟩:=((zu H).below (zu HB) lg) k (by rw[marks_len];exact t)
   rw[marks_getD s n k t] at e1 e2 e3
   have K1:wr.cell? ⟨g,k*3+1,none⟩=some (.string (mt (s+3*(k:Int)+1))):=e2
   replace e3:wr.cell? ⟨g,k*3+2,none⟩=some (.string (mt (s+3*(k:Int)+1+1))):=by rw[e3,show s+3*(k:Int)+1+1=s+3*(k:Int)+2 by omega]
   have r1:IntKind.i64.wrap (s+3*(k:Int)+1)=s+3*(k:Int)+1:=by rw[IntKind.wrap_i64];omega
   have r2:IntKind.i64.wrap (s+3*(k:Int)+1+1)=s+3*(k:Int)+1+1:=by rw[IntKind.wrap_i64];omega
   have r3:IntKind.i64.wrap (s+3*(k:Int)+1+1+1)=s+3*(k:Int)+1+1+1:=by rw[IntKind.wrap_i64];omega
   clear e2
   go_wp2_with fail
   refine wp_region_held_drew (S:=(fun w'=>w'.cell? ⟨g,k*3+1,none⟩=some (.string (mt (s+3*(k:Int)+1))))) (by kernel_rfl) K1 (fun hHeld=>?_)
   refine tk 0 oP0 (.slice (some ⟨g,0,none⟩) n cap) rfl (by kernel_rfl) (fun _ _ _ h=>h) (by rfl) (fun w hSw=>?_) hHeld ?_
   ·(try dsimp only at hSw)
    unfold oP0
    go_simp
   try simp only[oP0,Act.put,zA,zB,zC]
   refine tk 1 oP1 (.int .i64 k) rfl (by kernel_rfl) (fun _ _ _ h=>h) (by rfl) (fun w hSw=>?_) hHeld ?_
   ·(try dsimp only at hSw)
    unfold oP1
    go_simp
   try simp only[oP1,Act.put,zA,zB,zC]
   refine tk 2 oP2 (.pointer (some ⟨g,k*3,none⟩)) rfl (by kernel_rfl) (fun _ _ _ h=>h) (by rfl) (fun w hSw=>?_) hHeld ?_
   ·(try dsimp only at hSw)
    unfold oP2
    go_simp
   try simp only[oP2,Act.put,zA,zB,zC]
   refine tk 3 oP3 (.pointer (some ⟨g,k*3+1,none⟩)) rfl (by kernel_rfl) (fun _ _ _ h=>h) (by rfl) (fun w hSw=>?_) hHeld ?_
   ·(try dsimp only at hSw)
    unfold oP3
    go_simp
   try simp only[oP3,Act.put,zA,zB,zC]
   refine tk 4 oP4 (.string (mt (s+3*(k:Int)+1))) rfl (by kernel_rfl) (fun _ _ _ h=>h) (by rfl) (fun w hSw=>?_) hHeld ?_
   ·(try dsimp only at hSw)
    unfold oP4
    go_simp
   try simp only[oP4,Act.put,zA,zB,zC]
   refine tk 5 oP5 (.int .i64 (s+3*(k:Int)+1)) rfl (by kernel_rfl) (fun _ _ _ h=>h) (by rfl) (fun w hSw=>?_) hHeld ?_
   ·(try dsimp only at hSw)
    unfold oP5
    go_simp
   try simp only[oP5,Act.put,zA,zB,zC]
   refine wpAnyH_ready (rs:=[6]) (by kernel_rfl) (by simp) ?_
   refine AllReadyH.cons (o:=oP6) rfl (fun K hK=>?_) AllReadyH.nil
   unfold oP6
   go_simp
   go_wp2_with fail
   refine(markT _ (s+3*(k:Int)+1) (by omega) (by omega)).mono ?_
   rintro e u1 ⟨rfl,bb⟩
   have bu1:=zh (show Below wr.heap.size wr u1 from⟨bb.os,bb.tape,bb.output,bb.size,bb.block⟩)
   have Ku1:u1.cell? ⟨g,k*3+1,none⟩=some (.string (mt (s+3*(k:Int)+1))):=((zu bu1).cell (p:=⟨g,k*3+1,none⟩) (Nat.lt_of_lt_of_le lg (zu HB).size)).trans K1
   clear bb
   go_wp2_with fail
   refine hK.out _ _ Ku1 (fun hHeld=>?_)
   clear hK K
   try simp only[oP6,Act.put,zA,zB,zC]
   refine tk 7 oP7 (.bool false) rfl (by kernel_rfl) (fun _ _ _ h=>h) (by rfl) (fun w hSw=>?_) hHeld ?_
   ·(try dsimp only at hSw)
    unfold oP7
    go_simp
   try simp only[oP7,Act.put,zA,zB,zC]
   refine wpAnyH_done (by kernel_rfl) ?_ _
   have B1:=zh ((zu HB).trans ((zu bu1).mono (zu HB).size))
   have K2:u1.cell? ⟨g,k*3+2,none⟩=some (.string (mt (s+3*(k:Int)+1+1))):=((zu bu1).cell (p:=⟨g,k*3+2,none⟩) (Nat.lt_of_lt_of_le lg (zu HB).size)).trans e3
   clear K1 Ku1
   go_wp2_with fail
   refine wp_region_held_drew (S:=(fun w'=>w'.cell? ⟨g,k*3+2,none⟩=some (.string (mt (s+3*(k:Int)+1+1))))) (by kernel_rfl) K2 (fun hHeld=>?_)
   refine tk 0 oQ0 (.slice (some ⟨g,0,none⟩) n cap) rfl (by kernel_rfl) (fun _ _ _ h=>h) (by rfl) (fun w hSw=>?_) hHeld ?_
   ·(try dsimp only at hSw)
    unfold oQ0
    go_simp
   try simp only[oQ0,Act.put,zA,zB,zC]
   refine tk 1 oQ1 (.int .i64 k) rfl (by kernel_rfl) (fun _ _ _ h=>h) (by rfl) (fun w hSw=>?_) hHeld ?_
   ·(try dsimp only at hSw)
    unfold oQ1
    go_simp
   try simp only[oQ1,Act.put,zA,zB,zC]
   refine tk 2 oQ2 (.pointer (some ⟨g,k*3,none⟩)) rfl (by kernel_rfl) (fun _ _ _ h=>h) (by rfl) (fun w hSw=>?_) hHeld ?_
   ·(try dsimp only at hSw)
    unfold oQ2
    go_simp
   try simp only[oQ2,Act.put,zA,zB,zC]
   refine tk 3 oQ3 (.pointer (some ⟨g,k*3+2,none⟩)) rfl (by kernel_rfl) (fun _ _ _ h=>h) (by rfl) (fun w hSw=>?_) hHeld ?_
   ·(try dsimp only at hSw)
    unfold oQ3
    go_simp
   try simp only[oQ3,Act.put,zA,zB,zC]
   refine tk 4 oQ4 (.string (mt (s+3*(k:Int)+1+1))) rfl (by kernel_rfl) (fun _ _ _ h=>h) (by rfl) (fun w hSw=>?_) hHeld ?_
   ·(try dsimp only at hSw)
    unfold oQ4
    go_simp
   try simp only[oQ4,Act.put,zA,zB,zC]
   refine tk 5 oQ5 (.int .i64 (s+3*(k:Int)+1+1)) rfl (by kernel_rfl) (fun _ _ _ h=>h) (by rfl) (fun w hSw=>?_) hHeld ?_
   ·(try dsimp only at hSw)
    unfold oQ5
    go_simp
   try simp only[oQ5,Act.put,zA,zB,zC]
   refine wpAnyH_ready (rs:=[6]) (by kernel_rfl) (by simp) ?_
   refine AllReadyH.cons (o:=oQ6) rfl (fun K hK=>?_) AllReadyH.nil
   unfold oQ6
   go_simp
   go_wp2_with fail
   refine(markT _ (s+3*(k:Int)+1+1) (by omega) (by omega)).mono ?_
   rintro e u2 ⟨rfl,bb⟩
   have bu2:=zh (show Below u1.heap.size u1 u2 from⟨bb.os,bb.tape,bb.output,bb.size,bb.block⟩)
   have Ku2:u2.cell? ⟨g,k*3+2,none⟩=some (.string (mt (s+3*(k:Int)+1+1))):=((zu bu2).cell (p:=⟨g,k*3+2,none⟩) (Nat.lt_of_lt_of_le lg (zu B1).size)).trans K2
   clear bb
   go_wp2_with fail
   refine hK.out _ _ Ku2 (fun hHeld=>?_)
   clear hK K
   try simp only[oQ6,Act.put,zA,zB,zC]
   refine tk 7 oQ7 (.bool false) rfl (by kernel_rfl) (fun _ _ _ h=>h) (by rfl) (fun w hSw=>?_) hHeld ?_
   ·(try dsimp only at hSw)
    unfold oQ7
    go_simp
   try simp only[oQ7,Act.put,zA,zB,zC]
   refine wpAnyH_done (by kernel_rfl) ?_ _
   have B2:=zh ((zu B1).trans ((zu bu2).mono (zu B1).size))
   clear K2 Ku2 bu2
   go_wp2
   go_roundw
   case rel=>exact⟨k+1,by omega,by go_num,by go_num,B2⟩
   case measure=>simp[intOf];omega
  ·obtain rfl:k=n:=by omega
   go_wp2
   go_ret
   exact⟨rfl,zu HB⟩
end MarkFS14
namespace DkH14
open Fil14 OpensF14 DiskH14
open MarkFS14 (marks marks_len)
structure Dx where
 room:Int
 a:Option Addr
 c:Nat
 ps:List TF
structure RdD(w:World)(x:Dx):Prop where
 e:x.ps.length≠0→∃g,x.a=some ⟨g,0,none⟩
 r:∀g,x.a=some ⟨g,0,none⟩→g<w.heap.size∧AtF w g x.ps
 n:x.ps.length≤1048576
theorem RdD.below{w w':World}{x:Dx}(h:RdD w x)(k:Below w.heap.size w w'):RdD w' x:=⟨h.e,fun g e=>⟨Nat.lt_of_lt_of_le (h.r g e).1 k.size,(h.r g e).2.below k (h.r g e).1⟩,h.n⟩
def OwD(w:World)(base:Nat)(x:Dx):Prop:=w.ownsRow base 120 3 (.slice x.a x.ps.length x.c) x.ps.length (flatF x.ps)
def OmD(w:World)(base:Nat)(x:Dx):Prop:=w.ownsRow base 120 3 (.slice x.a x.ps.length x.c) x.ps.length (flatF (marks 1 x.ps.length))
theorem row_step{W W':World}{base:Nat}{e:TypeId}{m:Nat}{v:Value}{n:Nat}{vs:List Value}(h:W.ownsRow base e m v n vs)(k:Below W.heap.size W W'):W'.ownsRow base e m v n vs:=
 World.ownsRow.kept h (row:=none) ⟨k.os,k.tape,k.output,k.size,fun i hi _=>k.block i hi⟩ (by
  cases hb:v.ownBlock with
  |none=>exact .inl rfl
  |some g=>exact .inr (by simp))
theorem addr_of{W:World}{base:Nat}{e:TypeId}{m n c:Nat}{a:Option Addr}{vs:List Value}(h:W.ownsRow base e m (.slice a n c) n vs):(n≠0→∃g,a=some ⟨g,0,none⟩)∧∀g,a=some ⟨g,0,none⟩→g<W.heap.size:=by
 refine⟨fun hn=>?_,fun g e=>(World.ownsRow.lt h g (by rw[e];rfl)).2⟩
 rcases h.2 with⟨h1,_⟩|⟨g,c',cur,h1,_⟩
 ·have:n=0:=by simp at h1;omega
  exact absurd this hn
 ·have:a=some ⟨g,0,none⟩∧c=c':=by simpa using h1
  exact⟨g,this.1⟩
theorem OwD.rd{w:World}{base:Nat}{x:Dx}(h:OwD w base x)(hn:x.ps.length≤1048576):RdD w x:=by
 refine⟨(addr_of h).1,fun g e=>⟨(addr_of h).2 g e,?_⟩,hn⟩
 have o:=h
 unfold OwD at o
 rw[e] at o
 exact OwnF.at o
theorem OwD.step{w w':World}{base:Nat}{x:Dx}(h:OwD w base x)(k:Below w.heap.size w w'):OwD w' base x:=row_step h k
theorem OmD.step{w w':World}{base:Nat}{x:Dx}(h:OmD w base x)(k:Below w.heap.size w w'):OmD w' base x:=row_step h k
def Bc(w:World)(base g:Nat)(v0 v1:Value):Prop:=w.ownsRow base 52 2 (.slice (some ⟨g,0,none⟩) 1 1) 1 [v0,v1]
theorem Bc.made{w:World}{base g:Nat}(v0 v1:Value)(hb:base≤w.heap.size)(hg:g=w.heap.size):Bc (w.alloc (.cells #[v0,v1] 52)) base g v0 v1:=by
 subst hg
 exact⟨rfl,.inr ⟨w.heap.size,1,#[v0,v1],rfl,hb,heap_alloc_new w _,Nat.le_refl _,by unfold maxLen;omega,rfl,rfl⟩⟩
section
variable {w w':World} {base g:Nat} {v0 v1:Value}
theorem Bc.lt(h:Bc w base g v0 v1):base≤g∧g<w.heap.size:=World.ownsRow.lt h g rfl
theorem Bc.free(h:Bc w base g v0 v1)(i:Nat):w.frozen? ⟨g,i,none⟩=false:=World.ownsRow.frozenAt h i
theorem Bc.c0(h:Bc w base g v0 v1):w.cell? ⟨g,0,none⟩=some v0:=(World.ownsRow.cellAt h 0 (by omega)).trans rfl
theorem Bc.c1(h:Bc w base g v0 v1):w.cell? ⟨g,1,none⟩=some v1:=(World.ownsRow.cellAt h 1 (by omega)).trans rfl
theorem Bc.set0(h:Bc w base g v0 v1)(u:Value):Bc (w.setCell ⟨g,0,none⟩ u) base g u v1∧w.grownBy (w.setCell ⟨g,0,none⟩ u) (some g):=World.ownsRow.stored h 0 u
theorem Bc.kept{row:Option Nat}(h:Bc w base g v0 v1)(k:w.grownBy w' row)(hne:some g≠row):Bc w' base g v0 v1:=World.ownsRow.kept h k (Or.inr hne)
theorem Bc.below{B:Nat}(h:Bc w base g v0 v1)(k:Below B w w')(hg:g<B):Bc w' base g v0 v1:=by
 refine⟨h.1,?_⟩
 rcases h.2 with⟨h1,_⟩|⟨g',c,cur,h1,h2,h3,h4⟩
 ·simp at h1
 ·have e:g=g':=by simp at h1;exact h1.1
  subst e
  exact .inr ⟨g,c,cur,h1,h2,(k.block g hg).trans h3,h4⟩
end
theorem row_store{w:World}{base g n cap:Nat}{xs:List TF}(h:OwnF 120 w base g n cap xs){a:Addr}(ha:a.block<base)(u:Value):OwnF 120 (w.setCell a u) base g n cap xs:=ownsRow_setCell_below h ha u
theorem toD0(w:World)(k:Int)(a:Option Addr)(len cap:Nat)(xs:List TF)(hl:xs.length=len)(h20:len≤1048576)(hr:ReadsF w a xs):
  Calls Tryz.prog 13 #[.agg #[.int .i64 k,.slice a len cap]] w fun e w'=>∃g,e= .returned (.agg #[.int .i64 k,.slice (some ⟨g,0,none⟩) len len])∧OwnF 120 w' w.heap.size g len len xs∧Below w.heap.size w w':=by
 have F:∀W1,W1=w.alloc (.cells #[.int .i64 k,.slice a len cap] 48)→∀W2,W2=W1.alloc (.cells #[.int .i64 0,.slice none 0 0] 52)→∀W3,W3=W2.alloc (.cells #[.int .i64 k,.slice none 0 0] 52)→
   Below w.heap.size w W3∧Bc W3 w.heap.size (w.heap.size+1) (.int .i64 0) (.slice none 0 0)∧Bc W3 w.heap.size (w.heap.size+1+1) (.int .i64 k) (.slice none 0 0)∧W3.heap.size=w.heap.size+3:=by
  intro W1 h1 W2 h2 W3 h3
  have s1:W1.heap.size=w.heap.size+1:=by rw[h1];simp
  have s2:W2.heap.size=w.heap.size+1+1:=by rw[h2];simp[s1]
  have s3:W3.heap.size=w.heap.size+3:=by rw[h3];simp[s2]
  have b1:Below w.heap.size w W1:=by rw[h1];exact one_more _ _
  have b2:Below W1.heap.size W1 W2:=by rw[h2];exact one_more _ _
  have b3:Below W2.heap.size W2 W3:=by rw[h3];exact one_more _ _
  have R1:Bc W2 w.heap.size (w.heap.size+1) (.int .i64 0) (.slice none 0 0):=by rw[h2];exact Bc.made _ _ (by omega) s1.symm
  have O1:Bc W3 w.heap.size (w.heap.size+1+1) (.int .i64 k) (.slice none 0 0):=by rw[h3];exact Bc.made _ _ (by omega) s2.symm
  exact⟨(b1.trans (b2.mono (by omega))).trans (b3.mono (by omega)),R1.below b3 (by omega),O1,s3⟩
 have G:=zh (F _ rfl _ rfl _ rfl)
 have HR:=zh hr
 clear F hr
 go_enter Tryz.func13,Tryz.ntmps13
 go_wp2_with fail
 refine(HelpF14.toS _ a len cap xs hl h20 ((zu HR).below (zu G).1)).mono ?_
 rintro e w1 ⟨rfl,o,bb⟩
 obtain⟨BW,R0,O0,s3⟩:=zu G
 rw[s3] at o
 have R1:=R0.below bb (by omega)
 have O1:=O0.below bb (by omega)
 have B1:=zh (BW.trans (bb.mono BW.size))
 have OX:=zh o
 have z1:=bb.size
 have c0:=O1.c0
 have c1:=O1.c1
 have d0:=O1.free 0
 have d1:=O1.free 1
 have r0:=R1.c0
 have r1:=R1.c1
 have f0:=R1.free 0
 have f1:=R1.free 1
 clear bb o BW R0 O0 G HR R1 O1
 simp only[s3] at *
 go_wp2
 refine bodyPost_ret (v:= .agg #[.int .i64 k,.slice (some ⟨w.heap.size+3,0,none⟩) len len]) (by simp[results,Tryz.results13,go_sem,r0,r1]) rfl ⟨w.heap.size+3,rfl,?_,?_⟩
 ·exact(row_store (row_store (row_store (zu OX) (a:=⟨w.heap.size+1+1,1,none⟩) (by simp) _) (a:=⟨w.heap.size+1,0,none⟩) (by simp) _) (a:=⟨w.heap.size+1,1,none⟩) (by simp) _).rebase (by omega)
 ·exact(((zu B1).setCell (p:=⟨w.heap.size+1+1,1,none⟩) (by simp;omega) _).setCell (p:=⟨w.heap.size+1,0,none⟩) (by simp) _).setCell (p:=⟨w.heap.size+1,1,none⟩) (by simp) _
theorem toD(w:World)(room:Int)(a:Option Addr)(len cap:Nat)(ps:List TF)(hl:ps.length=len)(h20:len≤1048576)(hr:ReadsF w a ps):
  Calls Tryz.prog 13 #[.agg #[.int .i64 room,.slice a len cap]] w fun e w'=>∃x:Dx,x.room=room∧x.ps=ps∧e= .returned (.agg #[.int .i64 x.room,.slice x.a x.ps.length x.c])∧OwD w' w.heap.size x∧Below w.heap.size w w':=
 (toD0 w room a len cap ps hl h20 hr).mono fun e w' ⟨g,h1,h2,h3⟩=>⟨⟨room,some ⟨g,0,none⟩,len,ps⟩,rfl,rfl,by subst hl;exact h1,by subst hl;exact h2,h3⟩
theorem eqN(w:World)(a1 a2:Option Addr)(c1 c2:Nat):Calls Tryz.prog 47 #[.slice a1 0 c1,.slice a2 0 c2] w fun e w'=>e= .returned (.bool true)∧w'=w:=by
 go_enter Tryz.func47,Tryz.ntmps47
 go_wp2
 go_loopw [5] (fun j wr=>j= .int .i64 0∧wr=w) (fun _ _=>0)
 case atStart=>exact⟨rfl,rfl⟩
 case round=>
  obtain⟨rfl,rfl⟩:=hrel
  go_wp2
  go_ret
  exact⟨rfl,rfl⟩
theorem eqV(w:World)(x y:Dx)(hp:y.ps=x.ps)(hx:RdD w x)(hy:RdD w y):Calls Tryz.prog 47 #[.slice x.a x.ps.length x.c,.slice y.a x.ps.length y.c] w fun e w'=>e= .returned (.bool true)∧Below w.heap.size w w':=by
 by_cases z:x.ps.length=0
 ·rw[z]
  exact(eqN w _ _ _ _).mono fun e w' ⟨h1,h2⟩=>⟨h1,by rw[h2];exact Below.refl _ _⟩
 ·obtain⟨g1,e1⟩:=hx.e z
  obtain⟨g2,e2⟩:=hy.e (by rw[hp];exact z)
  have a1:=hx.r g1 e1
  have a2:=hy.r g2 e2
  rw[hp] at a2
  rw[e1,e2]
  exact HelpF14.eqS w g1 g2 _ _ _ x.ps rfl hx.n a1.1 a2.1 a1.2 a2.2
theorem eqD(w:World)(x y:Dx)(hr:y.room=x.room)(hp:y.ps=x.ps)(hx:RdD w x)(hy:RdD w y):
  Calls Tryz.prog 15 #[.agg #[.int .i64 x.room,.slice x.a x.ps.length x.c],.agg #[.int .i64 y.room,.slice y.a y.ps.length y.c]] w fun e w'=>e= .returned (.bool true)∧Below w.heap.size w w':=by
 have b1:=one_more w (.cells #[.int .i64 x.room,.slice x.a x.ps.length x.c] 52)
 have b2:=one_more (w.alloc (.cells #[.int .i64 x.room,.slice x.a x.ps.length x.c] 52)) (.cells #[.int .i64 y.room,.slice y.a y.ps.length y.c] 52)
 have B:=zh (b1.trans (b2.mono b1.size))
 have E:=zh (eqV _ x y hp (hx.below (zu B)) (hy.below (zu B)))
 rw[hr,hp] at B⊢
 rw[hr,hp] at E
 have q:(x.room !=x.room)=false:=by simp
 clear hx hy b1 b2 hr hp
 go_enter Tryz.func15,Tryz.ntmps15
 go_wp2_with fail
 refine(zu E).mono ?_
 rintro e u ⟨rfl,bb⟩
 have B2:=zh ((zu B).trans (bb.mono (zu B).size))
 clear bb
 go_wp2
 go_ret
 exact⟨rfl,zu B2⟩
theorem markN(w:World)(a:Option Addr)(c:Nat)(s:Int):Calls Tryz.prog 48 #[.slice a 0 c,.int .i64 s] w fun e w'=>e= .returned (.int .i64 s)∧w'=w:=by
 go_enter Tryz.func48,Tryz.ntmps48
 go_wp2
 go_loopw [1,5] (fun m j wr=>m= .int .i64 s∧j= .int .i64 0∧wr=w) (fun _ _ _=>0)
 case atStart=>exact⟨rfl,rfl,rfl⟩
 case round=>
  obtain⟨rfl,rfl,rfl⟩:=hrel
  go_wp2
  go_ret
  exact⟨rfl,rfl⟩
theorem heldN(w:World)(a:Option Addr)(c:Nat)(s:Int):Calls Tryz.prog 50 #[.slice a 0 c,.int .i64 s] w fun e w'=>e= .returned (.int .i64 s)∧w'=w:=by
 go_enter Tryz.func50,Tryz.ntmps50
 go_wp2
 go_loopw [1,5] (fun m j wr=>m= .int .i64 s∧j= .int .i64 0∧wr=w) (fun _ _ _=>0)
 case atStart=>exact⟨rfl,rfl,rfl⟩
 case round=>
  obtain⟨rfl,rfl,rfl⟩:=hrel
  go_wp2
  go_ret
  exact⟨rfl,rfl⟩
theorem markV(w:World)(base:Nat)(x:Dx)(hn:x.ps.length≤1048576)(hb:base≤w.heap.size)(ho:OwD w base x):
  Calls Tryz.prog 48 #[.slice x.a x.ps.length x.c,.int .i64 1] w fun e w'=>e= .returned (.int .i64 (1+3*(x.ps.length:Int)))∧OmD w' base x∧w.grownBy w' (Value.slice x.a x.ps.length x.c).ownBlock:=by
 unfold OwD at ho
 unfold OmD
 generalize hl:x.ps.length=n at *
 generalize x.a=a at *
 generalize x.c=c at *
 have ho':=ho
 rcases ho.2 with⟨h1,h2⟩|⟨g,c',cur,h1,_⟩
 ·obtain⟨rfl,_,rfl⟩:a=none∧n=0∧c=0:=by simpa using h1
  subst h2
  exact(markN w _ _ 1).mono fun e w' ⟨q1,q2⟩=>⟨by rw[q1];simp,by rw[q2];exact World.ownsRow_nil w base _ _,by rw[q2];exact World.grownBy.refl _ _⟩
 ·obtain⟨rfl,rfl⟩:a=some ⟨g,0,none⟩∧c=c':=by simpa using h1
  exact MarkFS14.markS w base g n c 1 x.ps hn (by omega) (by omega) hb ho'
theorem heldV(w:World)(base:Nat)(x:Dx)(hn:x.ps.length≤1048576)(ho:OmD w base x):
  Calls Tryz.prog 50 #[.slice x.a x.ps.length x.c,.int .i64 1] w fun e w'=>e= .returned (.int .i64 (1+3*(x.ps.length:Int)))∧Below w.heap.size w w':=by
 unfold OmD at ho
 generalize hl:x.ps.length=n at *
 generalize x.a=a at *
 generalize x.c=c at *
 have ho':=ho
 rcases ho.2 with⟨h1,h2⟩|⟨g,c',cur,h1,_⟩
 ·obtain⟨rfl,_,rfl⟩:a=none∧n=0∧c=0:=by simpa using h1
  subst h2
  exact(heldN w _ _ 1).mono fun e w' ⟨q1,q2⟩=>⟨by rw[q1];simp,by rw[q2];exact Below.refl _ _⟩
 ·obtain⟨rfl,rfl⟩:a=some ⟨g,0,none⟩∧c=c':=by simpa using h1
  exact MarkFS14.heldS w g n c 1 hn (by omega) (by omega) (OwnF.lt ho').2 (OwnF.at ho')
structure TurnD(x:Dx)(w w':World):Prop where
 os:w'.os=w.os
 tape:w'.tape=w.tape
 output:w'.output=w.output
 size:w.heap.size≤w'.heap.size
 block:∀k,k<w.heap.size→some k≠(Value.slice x.a x.ps.length x.c).ownBlock→w'.heap[k]?=w.heap[k]?
theorem TurnD.below{x:Dx}{w w':World}{base:Nat}(h:TurnD x w w')(o:OwD w base x)(hb:base≤w.heap.size):Below base w w':=
 ⟨h.os,h.tape,h.output,h.size,fun j hj=>h.block j (by omega) (fun e=>by have:=(World.ownsRow.lt o j e.symm).1;omega)⟩
theorem markD(w:World)(base:Nat)(x:Dx)(hn:x.ps.length≤1048576)(hb:base≤w.heap.size)(ho:OwD w base x):
  Calls Tryz.prog 16 #[.agg #[.int .i64 x.room,.slice x.a x.ps.length x.c],.int .i64 1] w fun e w'=>e= .returned (.int .i64 (1+3*(x.ps.length:Int)))∧OmD w' base x∧TurnD x w w':=by
 have b1:=one_more w (.cells #[.int .i64 x.room,.slice x.a x.ps.length x.c] 52)
 have M:=zh (markV _ base x hn (Nat.le_trans hb b1.size) (ho.step b1))
 have B1:=zh b1
 clear ho b1
 go_enter Tryz.func16,Tryz.ntmps16
 go_wp2_with fail
 refine(zu M).mono ?_
 rintro e u ⟨rfl,o,gr⟩
 have O:=zh o
 have T:=zh (show TurnD x w u from⟨gr.os.trans (zu B1).os,gr.tape.trans (zu B1).tape,gr.output.trans (zu B1).output,Nat.le_trans (zu B1).size gr.size,fun k hk ne=>(gr.block k (Nat.lt_of_lt_of_le hk (zu B1).size) ne).trans ((zu B1).block k hk)⟩)
 clear o gr M
 go_wp2
 go_ret
 exact⟨rfl,zu O,zu T⟩
theorem heldD(w:World)(base:Nat)(x:Dx)(hn:x.ps.length≤1048576)(ho:OmD w base x):
  Calls Tryz.prog 18 #[.agg #[.int .i64 x.room,.slice x.a x.ps.length x.c],.int .i64 1] w fun e w'=>e= .returned (.int .i64 (1+3*(x.ps.length:Int)))∧Below w.heap.size w w':=by
 have b1:=one_more w (.cells #[.int .i64 x.room,.slice x.a x.ps.length x.c] 52)
 have M:=zh (heldV _ base x hn (ho.step b1))
 have B1:=zh b1
 have q:¬(1+3*(x.ps.length:Int)<0):=by omega
 clear ho b1
 go_enter Tryz.func18,Tryz.ntmps18
 go_wp2_with fail
 refine(zu M).mono ?_
 rintro e u ⟨rfl,bb⟩
 have B2:=zh ((zu B1).trans (bb.mono (zu B1).size))
 clear bb M
 go_wp2
 go_ret
 exact⟨rfl,zu B2⟩
end DkH14
namespace SDk14
open Fil14 OpensF14 DiskH14 DkH14
def findF(ps:List TF)(nm:Int):Int:=match ps.findIdx? (fun p=>p.1==nm) with|some i=>i|none=> -1
theorem sumZ_le(ps:List TF)(k:Nat):sumZ (ps.take k)≤sumZ ps:=by
 have:=sumZ_append (ps.take k) (ps.drop k)
 rw[List.take_append_drop] at this
 omega
theorem cells_of{w:World}{x:Dx}(h:RdD w x){k:Nat}(hk:k<x.ps.length):∃g,x.a=some ⟨g,0,none⟩∧g<w.heap.size∧HoldsF w g (k*3) (elF x.ps k):=by
 obtain⟨g,e⟩:=h.e (by omega)
 exact⟨g,e,(h.r g e).1,(h.r g e).2 k hk⟩
structure Wd(w wr:World)(x:Dx):Prop where
 c0:wr.cell? ⟨w.heap.size,0,none⟩=some (.int .i64 x.room)
 c1:wr.cell? ⟨w.heap.size,1,none⟩=some (.slice x.a x.ps.length x.c)
 lt:w.heap.size<wr.heap.size
 b:Below w.heap.size w wr
 r:RdD wr x
theorem Wd.made{w:World}{x:Dx}(hr:RdD w x)(t:TypeId):Wd w (w.alloc (.cells #[.int .i64 x.room,.slice x.a x.ps.length x.c] t)) x:=
 ⟨by simp[go_sem],by simp[go_sem],by simp,one_more _ _,hr.below (one_more _ _)⟩
theorem Wd.step{w wr wz:World}{x:Dx}(h:Wd w wr x)(k:Below wr.heap.size wr wz):Wd w wz x:=
 ⟨(k.cell (p:=⟨w.heap.size,0,none⟩) h.lt).trans h.c0,(k.cell (p:=⟨w.heap.size,1,none⟩) h.lt).trans h.c1,Nat.lt_of_lt_of_le h.lt k.size,h.b.trans (k.mono h.b.size),h.r.below k⟩
theorem Wd.drew{w wr:World}{x:Dx}(h:Wd w wr x):Wd w wr.drew x:=h.step (Below.refl _ _).drew
theorem sSize(w:World)(x:Dx)(hr:RdD w x)(hz:sumZ x.ps≤1048576):
  Calls Tryz.prog 75 #[.agg #[.int .i64 x.room,.slice x.a x.ps.length x.c]] w fun e w'=>e= .returned (.int .i64 (sumZ x.ps))∧Below w.heap.size w w':=by
 have W0:=zh (Wd.made hr 52)
 have h20:=hr.n
 clear hr
 go_enter Tryz.func75,Tryz.ntmps75
 go_wp2
 go_loopw [3,4] (fun n i wr=>∃(k:Nat) (y:Int),k≤x.ps.length∧i= .int .i64 k∧n= .int .i64 y∧0≤y∧y≤1048576∧Hid (y=sumZ (x.ps.take k))∧Hid (Wd w wr x)) (fun _ i _=>x.ps.length-(intOf i).toNat)
 case atStart=>exact⟨0,0,by omega,rfl,rfl,by omega,by omega,zh (by simp[sumZ]),W0⟩
 case round=>
  clear W0
  obtain⟨k,y,hk,rfl,rfl,y0,y1,HY,HW⟩:=hrel
  have c1:=(zu HW).c1
  have lt:=(zu HW).lt
  by_cases t:k<x.ps.length
  ·have kt:(k:Int)<x.ps.length:=by omega
   have NX:=sumZ_next t
   have LE:=sumZ_le x.ps (k+1)
   have YE:=zu HY
   obtain⟨g,ea,lg,d0,d1,d2⟩:=cells_of (zu HW).r t
   generalize (elF x.ps k).1=z0 at *
   generalize (elF x.ps k).2.1=z1 at *
   generalize (elF x.ps k).2.2=z2 at *
   have b1:(z1.size:Int)≤1048576:=by omega
   have b2:y+z1.size+z2.size≤1048576:=by omega
   have a1:wrap64 (y+z1.size)=y+z1.size:=by rw[wrap64];omega
   have a2:wrap64 (y+z1.size+z2.size)=y+z1.size+z2.size:=by rw[wrap64];omega
   have NY:=zh (show y+z1.size+z2.size=sumZ (x.ps.take (k+1)) by omega)
   clear NX LE YE
   rw[ea] at c1
   go_wp2_with fail
   go_region
   go_wp2
   go_roundw
   case rel=>exact⟨k+1,y+z1.size+z2.size,by omega,by go_num,rfl,by omega,by omega,NY,(zu HW).drew⟩
   case measure=>simp[intOf];omega
  ·have e:k=x.ps.length:=by omega
   have E:=zh (show y=sumZ x.ps by have:=zu HY;rw[e,List.take_length] at this;exact this)
   have kt:¬(k:Int)<x.ps.length:=by omega
   clear HY
   subst e
   go_wp2
   go_ret
   exact⟨congrArg (fun z=>Ending.returned (.int .i64 z)) (zu E),(zu HW).b⟩
theorem elF_get{ps:List TF}{k:Nat}(hk:k<ps.length):elF ps k=ps[k]:=by simp[List.getD,hk]
theorem findF_at{ps:List TF}{nm:Int}{k:Nat}(hk:k<ps.length)(h:∀j,j<k→(elF ps j).1≠nm)(e:(elF ps k).1=nm):findF ps nm=k:=by
 have:ps.findIdx? (fun p=>p.1==nm)=some k:=by
  rw[List.findIdx?_eq_some_iff_getElem]
  refine⟨hk,by rw[elF_get hk] at e;simp[e],fun j hj=>?_⟩
  have:=h j hj
  rw[elF_get (by omega)] at this
  simp[this]
 unfold findF
 rw[this]
theorem findF_no{ps:List TF}{nm:Int}(h:∀j,j<ps.length→(elF ps j).1≠nm):findF ps nm= -1:=by
 have:ps.findIdx? (fun p=>p.1==nm)=none:=by
  rw[List.findIdx?_eq_none_iff]
  intro q hq
  obtain⟨i,hi,rfl⟩:=List.getElem_of_mem hq
  have:=h i hi
  rw[elF_get hi] at this
  simp[this]
 unfold findF
 rw[this]
theorem findF_in{ps:List TF}{nm:Int}(h:0≤findF ps nm):∃k:Nat,findF ps nm=k∧k<ps.length∧(elF ps k).1=nm:=by
 unfold findF at *
 cases q:ps.findIdx? (fun p=>p.1==nm) with
 |none=>rw[q] at h;simp at h
 |some i=>
  rw[List.findIdx?_eq_some_iff_getElem] at q
  obtain⟨hi,e,_⟩:=q
  exact⟨i,rfl,hi,by rw[elF_get hi];simpa using e⟩
theorem sFind(w:World)(x:Dx)(nm:Int)(hr:RdD w x):
  Calls Tryz.prog 36 #[.agg #[.int .i64 x.room,.slice x.a x.ps.length x.c],.int .i64 nm] w fun e w'=>e= .returned (.int .i64 (findF x.ps nm))∧Below w.heap.size w w':=by
 have W0:=zh (Wd.made hr 52)
 have h20:=hr.n
 clear hr
 go_enter Tryz.func36,Tryz.ntmps36
 go_wp2
 go_loopw [5] (fun i wr=>∃(k:Nat),k≤x.ps.length∧i= .int .i64 k∧Hid (∀j,j<k→(elF x.ps j).1≠nm)∧Hid (Wd w wr x)) (fun i _=>x.ps.length-(intOf i).toNat)
 case atStart=>exact⟨0,by omega,rfl,zh (fun j h=>absurd h (by omega)),W0⟩
 case round=>
  clear W0
  obtain⟨k,hk,rfl,HY,HW⟩:=hrel
  have c1:=(zu HW).c1
  have lt:=(zu HW).lt
  by_cases t:k<x.ps.length
  ·have kt:(k:Int)<x.ps.length:=by omega
   have AT:=zh (fun e=>findF_at t (zu HY) e)
   have NO:=zh (fun(e:¬(elF x.ps k).1=nm) j (h:j<k+1)=>show(elF x.ps j).1≠nm from by
    by_cases q:j=k
    ·subst q;exact e
    ·exact(zu HY) j (by omega))
   obtain⟨g,ea,lg,d0,d1,d2⟩:=cells_of (zu HW).r t
   generalize (elF x.ps k).1=z0 at *
   clear HY d1 d2
   rw[ea] at c1
   by_cases q:z0=nm
   ·have A:=zh ((zu AT) q)
    clear AT NO
    subst q
    go_wp2
    go_ret
    exact⟨congrArg (fun z=>Ending.returned (.int .i64 z)) (zu A).symm,(zu HW).b⟩
   ·have N:=zh ((zu NO) q)
    clear AT NO
    go_wp2
    go_roundw
    case rel=>exact⟨k+1,by omega,by go_num,N,HW⟩
    case measure=>simp[intOf];omega
  ·have e:k=x.ps.length:=by omega
   have E:=zh (show findF x.ps nm= -1 from findF_no (by rw[←e];exact zu HY))
   clear HY
   subst e
   go_wp2
   go_ret
   exact⟨congrArg (fun z=>Ending.returned (.int .i64 z)) (zu E).symm,(zu HW).b⟩
end SDk14
namespace SOk14
open Fil14 OpensF14 DiskH14 DkH14 SDk14
theorem sIn(w:World)(x lo hi:Int):Calls Tryz.prog 35 #[.int .i64 x,.int .i64 lo,.int .i64 hi] w fun e w'=>e= .returned (.bool (decide (lo≤x∧x≤hi)))∧w'=w:=by
 by_cases h0:lo≤x
 ·by_cases h1:x≤hi
  ·rw[decide_eq_true ⟨h0,h1⟩]
   go_enter Tryz.func35,Tryz.ntmps35
   go_wp2
   go_ret
   exact⟨rfl,rfl⟩
  ·rw[decide_eq_false (fun q=>h1 q.2)]
   go_enter Tryz.func35,Tryz.ntmps35
   go_wp2
   go_ret
   exact⟨rfl,rfl⟩
 ·rw[decide_eq_false (fun q=>h0 q.1)]
  go_enter Tryz.func35,Tryz.ntmps35
  go_wp2
  go_ret
  exact⟨rfl,rfl⟩
theorem sInB(w:World)(x lo hi:Int)(b:Bool)(h:decide (lo≤x∧x≤hi)=b):Calls Tryz.prog 35 #[.int .i64 x,.int .i64 lo,.int .i64 hi] w fun e w'=>e= .returned (.bool b)∧w'=w:=by
 rw[←h]
 exact sIn w x lo hi
def okN(n:Int):Bool:=decide (0≤n∧n≤21)
theorem sName(w:World)(n:Int):Calls Tryz.prog 76 #[.int .i64 n] w fun e w'=>e= .returned (.bool (okN n))∧w'=w:=by
 have S:=zh (fun u=>sInB u n 0 21 (okN n) rfl)
 generalize okN n=b at *
 go_enter Tryz.func76,Tryz.ntmps76
 go_wp2_with fail
 refine(zu S _).mono ?_
 rintro e u ⟨rfl,rfl⟩
 go_wp2
 go_ret
 exact⟨rfl,rfl⟩
def okAt(ps:List TF)(i:Nat):Prop:=okN (elF ps i).1=true∧(0<i→(elF ps (i-1)).1<(elF ps i).1)
instance (ps:List TF) (i:Nat):Decidable (okAt ps i):=by unfold okAt;infer_instance
def OkD(room:Int)(ps:List TF):Prop:=(0≤room∧room≤60000)∧ps.length≤22∧(sumZ ps:Int)≤room∧∀i,i<ps.length→okAt ps i
instance (room:Int) (ps:List TF):Decidable (OkD room ps):=by unfold OkD;infer_instance
theorem below_of_drew{w w':World}(h:Below w.drew.heap.size w.drew w'):Below w.heap.size w w':=((Below.refl w.heap.size w).drew).trans h
abbrev oA0:Oper:={dst:=some 4,op:=Go.Op.fieldAddr 52 (Go.Operand.tmp 1) 0,type:=0,pos:= "l14_disk.go:16",after:= #[],guard:=none}
abbrev oA1:Oper:={dst:=some 5,op:=Go.Op.load 3 (Go.Operand.tmp 4),type:=3,pos:= "l14_disk.go:16",after:= #[{on:=0,ground:=Go.Ground.data}],guard:=none}
abbrev oA2:Oper:={dst:=some 6,op:=Go.Op.call {callee:=Go.Callee.value (Go.Operand.func 35),args:= #[Go.Operand.tmp 5,Go.Operand.const (Go.Value.int Go.IntKind.i64 0),Go.Operand.const (Go.Value.int Go.IntKind.i64 60000)],argTypes:= #[3,3,3]},type:=4,pos:= "l14_disk.go:16",after:= #[{on:=1,ground:=Go.Ground.data}],guard:=none}
abbrev oA3:Oper:={dst:=some 7,op:=Go.Op.unOp Go.UnOp.not 4 (Go.Operand.tmp 6),type:=4,pos:= "l14_disk.go:16",after:= #[{on:=2,ground:=Go.Ground.data}],guard:=none}
abbrev oA4:Oper:={dst:=some 8,op:=Go.Op.move (Go.Operand.tmp 7),type:=4,pos:= "l14_disk.go:16",after:= #[{on:=3,ground:=Go.Ground.data},{on:=2,ground:=Go.Ground.chain}],guard:=none}
abbrev oA5:Oper:={dst:=some 9,op:=Go.Op.fieldAddr 52 (Go.Operand.tmp 1) 1,type:=0,pos:= "l14_disk.go:16",after:= #[{on:=4,ground:=Go.Ground.guard}],guard:=some (4,false)}
abbrev oA6:Oper:={dst:=some 10,op:=Go.Op.load 50 (Go.Operand.tmp 9),type:=50,pos:= "l14_disk.go:16",after:= #[{on:=5,ground:=Go.Ground.data},{on:=4,ground:=Go.Ground.guard}],guard:=some (4,false)}
abbrev oA7:Oper:={dst:=some 11,op:=Go.Op.call {callee:=Go.Callee.builtin Go.Builtin.len,args:= #[Go.Operand.tmp 10],argTypes:= #[50]},type:=3,pos:= "l14_disk.go:16",after:= #[{on:=6,ground:=Go.Ground.data},{on:=4,ground:=Go.Ground.guard}],guard:=some (4,false)}
abbrev oA8:Oper:={dst:=some 12,op:=Go.Op.binOp Go.BinOp.gtr 3 (Go.Operand.tmp 11) (Go.Operand.const (Go.Value.int Go.IntKind.i64 22)) 3,type:=4,pos:= "l14_disk.go:16",after:= #[{on:=7,ground:=Go.Ground.data},{on:=4,ground:=Go.Ground.guard}],guard:=some (4,false)}
abbrev oA9:Oper:={dst:=some 13,op:=Go.Op.pick (Go.Operand.tmp 8) (Go.Operand.const (Go.Value.bool true)) (Go.Operand.tmp 12),type:=4,pos:= "l14_disk.go:16",after:= #[{on:=4,ground:=Go.Ground.data},{on:=8,ground:=Go.Ground.data}],guard:=none}
abbrev oA10:Oper:={dst:=some 14,op:=Go.Op.move (Go.Operand.tmp 13),type:=4,pos:= "l14_disk.go:16",after:= #[{on:=9,ground:=Go.Ground.data},{on:=4,ground:=Go.Ground.chain}],guard:=none}
abbrev oA11:Oper:={dst:=some 15,op:=Go.Op.load 52 (Go.Operand.tmp 1),type:=52,pos:= "l14_disk.go:16",after:= #[{on:=10,ground:=Go.Ground.guard}],guard:=some (10,false)}
abbrev oA12:Oper:={dst:=some 16,op:=Go.Op.call {callee:=Go.Callee.value (Go.Operand.func 75),args:= #[Go.Operand.tmp 15],argTypes:= #[52]},type:=3,pos:= "l14_disk.go:16",after:= #[{on:=11,ground:=Go.Ground.data},{on:=10,ground:=Go.Ground.chain},{on:=10,ground:=Go.Ground.guard}],guard:=some (10,false)}
abbrev oA13:Oper:={dst:=some 17,op:=Go.Op.fieldAddr 52 (Go.Operand.tmp 1) 0,type:=0,pos:= "l14_disk.go:16",after:= #[{on:=10,ground:=Go.Ground.guard}],guard:=some (10,false)}
abbrev oA14:Oper:={dst:=some 18,op:=Go.Op.load 3 (Go.Operand.tmp 17),type:=3,pos:= "l14_disk.go:16",after:= #[{on:=13,ground:=Go.Ground.data},{on:=10,ground:=Go.Ground.guard}],guard:=some (10,false)}
abbrev oA15:Oper:={dst:=some 19,op:=Go.Op.binOp Go.BinOp.gtr 3 (Go.Operand.tmp 16) (Go.Operand.tmp 18) 3,type:=4,pos:= "l14_disk.go:16",after:= #[{on:=12,ground:=Go.Ground.data},{on:=14,ground:=Go.Ground.data},{on:=10,ground:=Go.Ground.guard}],guard:=some (10,false)}
abbrev oA16:Oper:={dst:=some 20,op:=Go.Op.pick (Go.Operand.tmp 14) (Go.Operand.const (Go.Value.bool true)) (Go.Operand.tmp 19),type:=4,pos:= "l14_disk.go:16",after:= #[{on:=10,ground:=Go.Ground.data},{on:=15,ground:=Go.Ground.data}],guard:=none}
abbrev oB0:Oper:={dst:=some 28,op:=Go.Op.fieldAddr 52 (Go.Operand.tmp 1) 1,type:=0,pos:= "l14_disk.go:20",after:= #[],guard:=none}
abbrev oB1:Oper:={dst:=some 29,op:=Go.Op.load 50 (Go.Operand.tmp 28),type:=50,pos:= "l14_disk.go:20",after:= #[{on:=0,ground:=Go.Ground.data}],guard:=none}
abbrev oB2:Oper:={dst:=some 30,op:=Go.Op.move (Go.Operand.tmp 3),type:=3,pos:= "l14_disk.go:20",after:= #[],guard:=none}
abbrev oB3:Oper:={dst:=some 31,op:=Go.Op.indexAddr 50 (Go.Operand.tmp 29) (Go.Operand.tmp 30),type:=0,pos:= "l14_disk.go:20",after:= #[{on:=1,ground:=Go.Ground.data},{on:=2,ground:=Go.Ground.data}],guard:=none}
abbrev oB4:Oper:={dst:=some 32,op:=Go.Op.fieldAddr 120 (Go.Operand.tmp 31) 0,type:=0,pos:= "l14_disk.go:20",after:= #[{on:=3,ground:=Go.Ground.data}],guard:=none}
abbrev oB5:Oper:={dst:=some 33,op:=Go.Op.load 3 (Go.Operand.tmp 32),type:=3,pos:= "l14_disk.go:20",after:= #[{on:=4,ground:=Go.Ground.data}],guard:=none}
abbrev oB6:Oper:={dst:=some 34,op:=Go.Op.call {callee:=Go.Callee.value (Go.Operand.func 76),args:= #[Go.Operand.tmp 33],argTypes:= #[3]},type:=4,pos:= "l14_disk.go:20",after:= #[{on:=5,ground:=Go.Ground.data}],guard:=none}
abbrev oB7:Oper:={dst:=some 35,op:=Go.Op.unOp Go.UnOp.not 4 (Go.Operand.tmp 34),type:=4,pos:= "l14_disk.go:20",after:= #[{on:=6,ground:=Go.Ground.data}],guard:=none}
abbrev oB8:Oper:={dst:=some 36,op:=Go.Op.move (Go.Operand.tmp 35),type:=4,pos:= "l14_disk.go:20",after:= #[{on:=7,ground:=Go.Ground.data},{on:=6,ground:=Go.Ground.chain}],guard:=none}
abbrev oB9:Oper:={dst:=some 37,op:=Go.Op.move (Go.Operand.tmp 3),type:=3,pos:= "l14_disk.go:20",after:= #[{on:=8,ground:=Go.Ground.guard}],guard:=some (8,false)}
abbrev oB10:Oper:={dst:=some 38,op:=Go.Op.binOp Go.BinOp.gtr 3 (Go.Operand.tmp 37) (Go.Operand.const (Go.Value.int Go.IntKind.i64 0)) 3,type:=4,pos:= "l14_disk.go:20",after:= #[{on:=9,ground:=Go.Ground.data},{on:=8,ground:=Go.Ground.guard}],guard:=some (8,false)}
abbrev oB11:Oper:={dst:=some 39,op:=Go.Op.move (Go.Operand.tmp 38),type:=4,pos:= "l14_disk.go:20",after:= #[{on:=10,ground:=Go.Ground.data},{on:=8,ground:=Go.Ground.chain},{on:=8,ground:=Go.Ground.guard}],guard:=some (8,false)}
abbrev oB12:Oper:={dst:=some 40,op:=Go.Op.fieldAddr 52 (Go.Operand.tmp 1) 1,type:=0,pos:= "l14_disk.go:20",after:= #[{on:=11,ground:=Go.Ground.guard}],guard:=some (11,true)}
abbrev oB13:Oper:={dst:=some 41,op:=Go.Op.load 50 (Go.Operand.tmp 40),type:=50,pos:= "l14_disk.go:20",after:= #[{on:=12,ground:=Go.Ground.data},{on:=11,ground:=Go.Ground.guard}],guard:=some (11,true)}
abbrev oB14:Oper:={dst:=some 42,op:=Go.Op.move (Go.Operand.tmp 3),type:=3,pos:= "l14_disk.go:20",after:= #[{on:=11,ground:=Go.Ground.guard}],guard:=some (11,true)}
abbrev oB15:Oper:={dst:=some 43,op:=Go.Op.binOp Go.BinOp.sub 3 (Go.Operand.tmp 42) (Go.Operand.const (Go.Value.int Go.IntKind.i64 1)) 3,type:=3,pos:= "l14_disk.go:20",after:= #[{on:=14,ground:=Go.Ground.data},{on:=11,ground:=Go.Ground.guard}],guard:=some (11,true)}
abbrev oB16:Oper:={dst:=some 44,op:=Go.Op.indexAddr 50 (Go.Operand.tmp 41) (Go.Operand.tmp 43),type:=0,pos:= "l14_disk.go:20",after:= #[{on:=13,ground:=Go.Ground.data},{on:=15,ground:=Go.Ground.data},{on:=11,ground:=Go.Ground.guard}],guard:=some (11,true)}
abbrev oB17:Oper:={dst:=some 45,op:=Go.Op.fieldAddr 120 (Go.Operand.tmp 44) 0,type:=0,pos:= "l14_disk.go:20",after:= #[{on:=16,ground:=Go.Ground.data},{on:=11,ground:=Go.Ground.guard}],guard:=some (11,true)}
abbrev oB18:Oper:={dst:=some 46,op:=Go.Op.load 3 (Go.Operand.tmp 45),type:=3,pos:= "l14_disk.go:20",after:= #[{on:=17,ground:=Go.Ground.data},{on:=11,ground:=Go.Ground.guard}],guard:=some (11,true)}
abbrev oB19:Oper:={dst:=some 47,op:=Go.Op.fieldAddr 52 (Go.Operand.tmp 1) 1,type:=0,pos:= "l14_disk.go:20",after:= #[{on:=11,ground:=Go.Ground.guard}],guard:=some (11,true)}
abbrev oB20:Oper:={dst:=some 48,op:=Go.Op.load 50 (Go.Operand.tmp 47),type:=50,pos:= "l14_disk.go:20",after:= #[{on:=19,ground:=Go.Ground.data},{on:=11,ground:=Go.Ground.guard}],guard:=some (11,true)}
abbrev oB21:Oper:={dst:=some 49,op:=Go.Op.move (Go.Operand.tmp 3),type:=3,pos:= "l14_disk.go:20",after:= #[{on:=11,ground:=Go.Ground.guard}],guard:=some (11,true)}
abbrev oB22:Oper:={dst:=some 50,op:=Go.Op.indexAddr 50 (Go.Operand.tmp 48) (Go.Operand.tmp 49),type:=0,pos:= "l14_disk.go:20",after:= #[{on:=20,ground:=Go.Ground.data},{on:=21,ground:=Go.Ground.data},{on:=11,ground:=Go.Ground.guard}],guard:=some (11,true)}
abbrev oB23:Oper:={dst:=some 51,op:=Go.Op.fieldAddr 120 (Go.Operand.tmp 50) 0,type:=0,pos:= "l14_disk.go:20",after:= #[{on:=22,ground:=Go.Ground.data},{on:=11,ground:=Go.Ground.guard}],guard:=some (11,true)}
abbrev oB24:Oper:={dst:=some 52,op:=Go.Op.load 3 (Go.Operand.tmp 51),type:=3,pos:= "l14_disk.go:20",after:= #[{on:=23,ground:=Go.Ground.data},{on:=11,ground:=Go.Ground.guard}],guard:=some (11,true)}
abbrev oB25:Oper:={dst:=some 53,op:=Go.Op.binOp Go.BinOp.geq 3 (Go.Operand.tmp 46) (Go.Operand.tmp 52) 3,type:=4,pos:= "l14_disk.go:20",after:= #[{on:=18,ground:=Go.Ground.data},{on:=24,ground:=Go.Ground.data},{on:=11,ground:=Go.Ground.guard}],guard:=some (11,true)}
abbrev oB26:Oper:={dst:=some 54,op:=Go.Op.pick (Go.Operand.tmp 39) (Go.Operand.tmp 53) (Go.Operand.const (Go.Value.bool false)),type:=4,pos:= "l14_disk.go:20",after:= #[{on:=11,ground:=Go.Ground.data},{on:=25,ground:=Go.Ground.data},{on:=8,ground:=Go.Ground.guard}],guard:=some (8,false)}
abbrev oB27:Oper:={dst:=some 55,op:=Go.Op.pick (Go.Operand.tmp 36) (Go.Operand.const (Go.Value.bool true)) (Go.Operand.tmp 54),type:=4,pos:= "l14_disk.go:20",after:= #[{on:=8,ground:=Go.Ground.data},{on:=26,ground:=Go.Ground.data}],guard:=none}
theorem sDiskOk(w:World)(x:Dx)(hr:RdD w x)(hz:sumZ x.ps≤1048576):
  Calls Tryz.prog 34 #[.agg #[.int .i64 x.room,.slice x.a x.ps.length x.c]] w fun e w'=>e= .returned (.bool (decide (OkD x.room x.ps)))∧Below w.heap.size w w':=by
 have W0:=zh (Wd.made hr 52)
 have h20:=hr.n
 clear hr
 by_cases q1:0≤x.room∧x.room≤60000
 case neg=>
  rw[decide_eq_false (fun h:OkD x.room x.ps=>q1 h.1)]
  have D:=zh (fun u=>sInB u x.room 0 60000 false (decide_eq_false q1))
  clear q1
  go_enter Tryz.func34,Tryz.ntmps34
  go_wp2_with fail
  have c0:=(zu W0).c0
  have c1:=(zu W0).c1
  have lt:=(zu W0).lt
  have K4:=And.intro c0 c1
  generalize w.alloc (.cells #[.int .i64 x.room,.slice x.a x.ps.length x.c] 52)=W at *
  refine wp_region_held_drew (S:=(fun w'=>w'.cell? ⟨w.heap.size,0,none⟩=some (.int .i64 x.room)∧w'.cell? ⟨w.heap.size,1,none⟩=some (.slice x.a x.ps.length x.c))) (by kernel_rfl) K4 (fun hHeld=>?_)
  refine tk 0 oA0 (.pointer (some ⟨w.heap.size,0,none⟩)) rfl (by kernel_rfl) (fun _ _ _ h=>h) (by rfl) (fun w hSw=>?_) hHeld ?_
  ·(try dsimp only at hSw)
   unfold oA0
   go_simp
  try simp only[oA0,Act.put,zA,zB,zC]
  refine tk 1 oA1 (.int .i64 x.room) rfl (by kernel_rfl) (fun _ _ _ h=>h) (by rfl) (fun w hSw=>?_) hHeld ?_
  ·(try dsimp only at hSw)
   unfold oA1
   go_simp
  try simp only[oA1,Act.put,zA,zB,zC]
  refine wpAnyH_ready (rs:=[2]) (by kernel_rfl) (by simp) ?_
  refine AllReadyH.cons (o:=oA2) rfl (fun K hK=>?_) AllReadyH.nil
  unfold oA2
  go_simp
  go_wp2_with fail
  refine(zu D _).mono ?_
  rintro e w3 ⟨rfl,rfl⟩
  go_wp2_with fail
  refine hK.out _ _ K4 (fun hHeld=>?_)
  clear hK K
  try simp only[oA2,Act.put,zA,zB,zC]
  refine tk 3 oA3 (.bool true) rfl (by kernel_rfl) (fun _ _ _ h=>h) (by rfl) (fun w hSw=>?_) hHeld ?_
  ·(try dsimp only at hSw)
   unfold oA3
   go_simp
  try simp only[oA3,Act.put,zA,zB,zC]
  refine tk 4 oA4 (.bool true) rfl (by kernel_rfl) (fun _ _ _ h=>h) (by rfl) (fun w hSw=>?_) hHeld ?_
  ·(try dsimp only at hSw)
   unfold oA4
   go_simp
  try simp only[oA4,Act.put,zA,zB,zC]
  refine sk 5 oA5 rfl (by kernel_rfl) (fun _ _ _ h=>h) (by rfl) hHeld ?_
  try simp only[oA5,Act.put,zA,zB,zC]
  refine sk 6 oA6 rfl (by kernel_rfl) (fun _ _ _ h=>h) (by rfl) hHeld ?_
  try simp only[oA6,Act.put,zA,zB,zC]
  refine sk 7 oA7 rfl (by kernel_rfl) (fun _ _ _ h=>h) (by rfl) hHeld ?_
  try simp only[oA7,Act.put,zA,zB,zC]
  refine sk 8 oA8 rfl (by kernel_rfl) (fun _ _ _ h=>h) (by rfl) hHeld ?_
  try simp only[oA8,Act.put,zA,zB,zC]
  refine tk 9 oA9 (.bool true) rfl (by kernel_rfl) (fun _ _ _ h=>h) (by rfl) (fun w hSw=>?_) hHeld ?_
  ·(try dsimp only at hSw)
   unfold oA9
   go_simp
  try simp only[oA9,Act.put,zA,zB,zC]
  refine tk 10 oA10 (.bool true) rfl (by kernel_rfl) (fun _ _ _ h=>h) (by rfl) (fun w hSw=>?_) hHeld ?_
  ·(try dsimp only at hSw)
   unfold oA10
   go_simp
  try simp only[oA10,Act.put,zA,zB,zC]
  refine sk 11 oA11 rfl (by kernel_rfl) (fun _ _ _ h=>h) (by rfl) hHeld ?_
  try simp only[oA11,Act.put,zA,zB,zC]
  refine sk 12 oA12 rfl (by kernel_rfl) (fun _ _ _ h=>h) (by rfl) hHeld ?_
  try simp only[oA12,Act.put,zA,zB,zC]
  refine sk 13 oA13 rfl (by kernel_rfl) (fun _ _ _ h=>h) (by rfl) hHeld ?_
  try simp only[oA13,Act.put,zA,zB,zC]
  refine sk 14 oA14 rfl (by kernel_rfl) (fun _ _ _ h=>h) (by rfl) hHeld ?_
  try simp only[oA14,Act.put,zA,zB,zC]
  refine sk 15 oA15 rfl (by kernel_rfl) (fun _ _ _ h=>h) (by rfl) hHeld ?_
  try simp only[oA15,Act.put,zA,zB,zC]
  refine tk 16 oA16 (.bool true) rfl (by kernel_rfl) (fun _ _ _ h=>h) (by rfl) (fun w hSw=>?_) hHeld ?_
  ·(try dsimp only at hSw)
   unfold oA16
   go_simp
  try simp only[oA16,Act.put,zA,zB,zC]
  refine wpAnyH_done (by kernel_rfl) ?_ _
  go_wp2
  go_ret
  exact⟨rfl,(zu W0).b.drew⟩
 have D:=zh (fun u=>sInB u x.room 0 60000 true (decide_eq_true q1))
 by_cases q2:x.ps.length≤22
 case neg=>
  rw[decide_eq_false (fun h:OkD x.room x.ps=>q2 h.2.1)]
  have d2:(x.ps.length:Int)>22:=by omega
  clear q1
  go_enter Tryz.func34,Tryz.ntmps34
  go_wp2_with fail
  have c0:=(zu W0).c0
  have c1:=(zu W0).c1
  have lt:=(zu W0).lt
  have K4:=And.intro c0 c1
  generalize w.alloc (.cells #[.int .i64 x.room,.slice x.a x.ps.length x.c] 52)=W at *
  refine wp_region_held_drew (S:=(fun w'=>w'.cell? ⟨w.heap.size,0,none⟩=some (.int .i64 x.room)∧w'.cell? ⟨w.heap.size,1,none⟩=some (.slice x.a x.ps.length x.c))) (by kernel_rfl) K4 (fun hHeld=>?_)
  refine tk 0 oA0 (.pointer (some ⟨w.heap.size,0,none⟩)) rfl (by kernel_rfl) (fun _ _ _ h=>h) (by rfl) (fun w hSw=>?_) hHeld ?_
  ·(try dsimp only at hSw)
   unfold oA0
   go_simp
  try simp only[oA0,Act.put,zA,zB,zC]
  refine tk 1 oA1 (.int .i64 x.room) rfl (by kernel_rfl) (fun _ _ _ h=>h) (by rfl) (fun w hSw=>?_) hHeld ?_
  ·(try dsimp only at hSw)
   unfold oA1
   go_simp
  try simp only[oA1,Act.put,zA,zB,zC]
  refine wpAnyH_ready (rs:=[2]) (by kernel_rfl) (by simp) ?_
  refine AllReadyH.cons (o:=oA2) rfl (fun K hK=>?_) AllReadyH.nil
  unfold oA2
  go_simp
  go_wp2_with fail
  refine(zu D _).mono ?_
  rintro e w3 ⟨rfl,rfl⟩
  go_wp2_with fail
  refine hK.out _ _ K4 (fun hHeld=>?_)
  clear hK K
  try simp only[oA2,Act.put,zA,zB,zC]
  refine tk 3 oA3 (.bool false) rfl (by kernel_rfl) (fun _ _ _ h=>h) (by rfl) (fun w hSw=>?_) hHeld ?_
  ·(try dsimp only at hSw)
   unfold oA3
   go_simp
  try simp only[oA3,Act.put,zA,zB,zC]
  refine tk 4 oA4 (.bool false) rfl (by kernel_rfl) (fun _ _ _ h=>h) (by rfl) (fun w hSw=>?_) hHeld ?_
  ·(try dsimp only at hSw)
   unfold oA4
   go_simp
  try simp only[oA4,Act.put,zA,zB,zC]
  refine tk 5 oA5 (.pointer (some ⟨w.heap.size,1,none⟩)) rfl (by kernel_rfl) (fun _ _ _ h=>h) (by rfl) (fun w hSw=>?_) hHeld ?_
  ·(try dsimp only at hSw)
   unfold oA5
   go_simp
  try simp only[oA5,Act.put,zA,zB,zC]
  refine tk 6 oA6 (.slice x.a x.ps.length x.c) rfl (by kernel_rfl) (fun _ _ _ h=>h) (by rfl) (fun w hSw=>?_) hHeld ?_
  ·(try dsimp only at hSw)
   unfold oA6
   go_simp
  try simp only[oA6,Act.put,zA,zB,zC]
  refine wpAnyH_ready (rs:=[7]) (by kernel_rfl) (by simp) ?_
  refine AllReadyH.cons (o:=oA7) rfl (fun K hK=>?_) AllReadyH.nil
  unfold oA7
  go_simp
  refine hK.out _ _ K4 (fun hHeld=>?_)
  clear hK K
  try simp only[oA7,Act.put,zA,zB,zC]
  refine tk 8 oA8 (.bool true) rfl (by kernel_rfl) (fun _ _ _ h=>h) (by rfl) (fun w hSw=>?_) hHeld ?_
  ·(try dsimp only at hSw)
   unfold oA8
   go_simp
  try simp only[oA8,Act.put,zA,zB,zC]
  refine tk 9 oA9 (.bool true) rfl (by kernel_rfl) (fun _ _ _ h=>h) (by rfl) (fun w hSw=>?_) hHeld ?_
  ·(try dsimp only at hSw)
   unfold oA9
   go_simp
  try simp only[oA9,Act.put,zA,zB,zC]
  refine tk 10 oA10 (.bool true) rfl (by kernel_rfl) (fun _ _ _ h=>h) (by rfl) (fun w hSw=>?_) hHeld ?_
  ·(try dsimp only at hSw)
   unfold oA10
   go_simp
  try simp only[oA10,Act.put,zA,zB,zC]
  refine sk 11 oA11 rfl (by kernel_rfl) (fun _ _ _ h=>h) (by rfl) hHeld ?_
  try simp only[oA11,Act.put,zA,zB,zC]
  refine sk 12 oA12 rfl (by kernel_rfl) (fun _ _ _ h=>h) (by rfl) hHeld ?_
  try simp only[oA12,Act.put,zA,zB,zC]
  refine sk 13 oA13 rfl (by kernel_rfl) (fun _ _ _ h=>h) (by rfl) hHeld ?_
  try simp only[oA13,Act.put,zA,zB,zC]
  refine sk 14 oA14 rfl (by kernel_rfl) (fun _ _ _ h=>h) (by rfl) hHeld ?_
  try simp only[oA14,Act.put,zA,zB,zC]
  refine sk 15 oA15 rfl (by kernel_rfl) (fun _ _ _ h=>h) (by rfl) hHeld ?_
  try simp only[oA15,Act.put,zA,zB,zC]
  refine tk 16 oA16 (.bool true) rfl (by kernel_rfl) (fun _ _ _ h=>h) (by rfl) (fun w hSw=>?_) hHeld ?_
  ·(try dsimp only at hSw)
   unfold oA16
   go_simp
  try simp only[oA16,Act.put,zA,zB,zC]
  refine wpAnyH_done (by kernel_rfl) ?_ _
  go_wp2
  go_ret
  exact⟨rfl,(zu W0).b.drew⟩
 have d2:¬(x.ps.length:Int)>22:=by omega
 have Q:=zh (And.intro q1 q2)
 by_cases q3:(sumZ x.ps:Int)≤x.room
 case neg=>
  rw[decide_eq_false (fun h:OkD x.room x.ps=>q3 h.2.2.1)]
  have d3:(sumZ x.ps:Int)>x.room:=by omega
  clear q1
  go_enter Tryz.func34,Tryz.ntmps34
  go_wp2_with fail
  have c0:=(zu W0).c0
  have c1:=(zu W0).c1
  have lt:=(zu W0).lt
  have K4:=And.intro c0 c1
  generalize w.alloc (.cells #[.int .i64 x.room,.slice x.a x.ps.length x.c] 52)=W at *
  refine wp_region_held_drew (S:=(fun w'=>w'.cell? ⟨w.heap.size,0,none⟩=some (.int .i64 x.room)∧w'.cell? ⟨w.heap.size,1,none⟩=some (.slice x.a x.ps.length x.c))) (by kernel_rfl) K4 (fun hHeld=>?_)
  refine tk 0 oA0 (.pointer (some ⟨w.heap.size,0,none⟩)) rfl (by kernel_rfl) (fun _ _ _ h=>h) (by rfl) (fun w hSw=>?_) hHeld ?_
  ·(try dsimp only at hSw)
   unfold oA0
   go_simp
  try simp only[oA0,Act.put,zA,zB,zC]
  refine tk 1 oA1 (.int .i64 x.room) rfl (by kernel_rfl) (fun _ _ _ h=>h) (by rfl) (fun w hSw=>?_) hHeld ?_
  ·(try dsimp only at hSw)
   unfold oA1
   go_simp
  try simp only[oA1,Act.put,zA,zB,zC]
  refine wpAnyH_ready (rs:=[2]) (by kernel_rfl) (by simp) ?_
  refine AllReadyH.cons (o:=oA2) rfl (fun K hK=>?_) AllReadyH.nil
  unfold oA2
  go_simp
  go_wp2_with fail
  refine(zu D _).mono ?_
  rintro e w3 ⟨rfl,rfl⟩
  go_wp2_with fail
  refine hK.out _ _ K4 (fun hHeld=>?_)
  clear hK K
  try simp only[oA2,Act.put,zA,zB,zC]
  refine tk 3 oA3 (.bool false) rfl (by kernel_rfl) (fun _ _ _ h=>h) (by rfl) (fun w hSw=>?_) hHeld ?_
  ·(try dsimp only at hSw)
   unfold oA3
   go_simp
  try simp only[oA3,Act.put,zA,zB,zC]
  refine tk 4 oA4 (.bool false) rfl (by kernel_rfl) (fun _ _ _ h=>h) (by rfl) (fun w hSw=>?_) hHeld ?_
  ·(try dsimp only at hSw)
   unfold oA4
   go_simp
  try simp only[oA4,Act.put,zA,zB,zC]
  refine tk 5 oA5 (.pointer (some ⟨w.heap.size,1,none⟩)) rfl (by kernel_rfl) (fun _ _ _ h=>h) (by rfl) (fun w hSw=>?_) hHeld ?_
  ·(try dsimp only at hSw)
   unfold oA5
   go_simp
  try simp only[oA5,Act.put,zA,zB,zC]
  refine tk 6 oA6 (.slice x.a x.ps.length x.c) rfl (by kernel_rfl) (fun _ _ _ h=>h) (by rfl) (fun w hSw=>?_) hHeld ?_
  ·(try dsimp only at hSw)
   unfold oA6
   go_simp
  try simp only[oA6,Act.put,zA,zB,zC]
  refine wpAnyH_ready (rs:=[7]) (by kernel_rfl) (by simp) ?_
  refine AllReadyH.cons (o:=oA7) rfl (fun K hK=>?_) AllReadyH.nil
  unfold oA7
  go_simp
  refine hK.out _ _ K4 (fun hHeld=>?_)
  clear hK K
  try simp only[oA7,Act.put,zA,zB,zC]
  refine tk 8 oA8 (.bool false) rfl (by kernel_rfl) (fun _ _ _ h=>h) (by rfl) (fun w hSw=>?_) hHeld ?_
  ·(try dsimp only at hSw)
   unfold oA8
   go_simp
  try simp only[oA8,Act.put,zA,zB,zC]
  refine tk 9 oA9 (.bool false) rfl (by kernel_rfl) (fun _ _ _ h=>h) (by rfl) (fun w hSw=>?_) hHeld ?_
  ·(try dsimp only at hSw)
   unfold oA9
   go_simp
  try simp only[oA9,Act.put,zA,zB,zC]
  refine tk 10 oA10 (.bool false) rfl (by kernel_rfl) (fun _ _ _ h=>h) (by rfl) (fun w hSw=>?_) hHeld ?_
  ·(try dsimp only at hSw)
   unfold oA10
   go_simp
  try simp only[oA10,Act.put,zA,zB,zC]
  refine tk 11 oA11 (.agg #[.int .i64 x.room,.slice x.a x.ps.length x.c]) rfl (by kernel_rfl) (fun _ _ _ h=>h) (by rfl) (fun w hSw=>?_) hHeld ?_
  ·(try dsimp only at hSw)
   unfold oA11
   go_simp
  try simp only[oA11,Act.put,zA,zB,zC]
  refine tk 13 oA13 (.pointer (some ⟨w.heap.size,0,none⟩)) rfl (by kernel_rfl) (fun _ _ _ h=>h) (by rfl) (fun w hSw=>?_) hHeld ?_
  ·(try dsimp only at hSw)
   unfold oA13
   go_simp
  try simp only[oA13,Act.put,zA,zB,zC]
  refine tk 14 oA14 (.int .i64 x.room) rfl (by kernel_rfl) (fun _ _ _ h=>h) (by rfl) (fun w hSw=>?_) hHeld ?_
  ·(try dsimp only at hSw)
   unfold oA14
   go_simp
  try simp only[oA14,Act.put,zA,zB,zC]
  refine wpAnyH_ready (rs:=[12]) (by kernel_rfl) (by simp) ?_
  refine AllReadyH.cons (o:=oA12) rfl (fun K hK=>?_) AllReadyH.nil
  unfold oA12
  go_simp
  go_wp2_with fail
  refine(sSize _ x (zu W0).drew.r hz).mono ?_
  rintro e w4 ⟨rfl,bb⟩
  have bW:=zh (below_of_drew bb)
  have W4:=zh ((zu W0).step (zu bW))
  have K5:=And.intro (zu W4).c0 (zu W4).c1
  clear bb
  go_wp2_with fail
  refine hK.out _ _ K5 (fun hHeld=>?_)
  clear hK K
  try simp only[oA12,Act.put,zA,zB,zC]
  refine tk 15 oA15 (.bool true) rfl (by kernel_rfl) (fun _ _ _ h=>h) (by rfl) (fun w hSw=>?_) hHeld ?_
  ·(try dsimp only at hSw)
   unfold oA15
   go_simp
  try simp only[oA15,Act.put,zA,zB,zC]
  refine tk 16 oA16 (.bool true) rfl (by kernel_rfl) (fun _ _ _ h=>h) (by rfl) (fun w hSw=>?_) hHeld ?_
  ·(try dsimp only at hSw)
   unfold oA16
   go_simp
  try simp only[oA16,Act.put,zA,zB,zC]
  refine wpAnyH_done (by kernel_rfl) ?_ _
  go_wp2
  go_ret
  exact⟨rfl,(zu W4).b⟩
 have d3:¬(sumZ x.ps:Int)>x.room:=by omega
 go_enter Tryz.func34,Tryz.ntmps34
 go_wp2_with fail
 have c0:=(zu W0).c0
 have c1:=(zu W0).c1
 have lt:=(zu W0).lt
 have K4:=And.intro c0 c1
 generalize w.alloc (.cells #[.int .i64 x.room,.slice x.a x.ps.length x.c] 52)=W at *
 refine wp_region_held_drew (S:=(fun w'=>w'.cell? ⟨w.heap.size,0,none⟩=some (.int .i64 x.room)∧w'.cell? ⟨w.heap.size,1,none⟩=some (.slice x.a x.ps.length x.c))) (by kernel_rfl) K4 (fun hHeld=>?_)
 refine tk 0 oA0 (.pointer (some ⟨w.heap.size,0,none⟩)) rfl (by kernel_rfl) (fun _ _ _ h=>h) (by rfl) (fun w hSw=>?_) hHeld ?_
 ·(try dsimp only at hSw)
  unfold oA0
  go_simp
 try simp only[oA0,Act.put,zA,zB,zC]
 refine tk 1 oA1 (.int .i64 x.room) rfl (by kernel_rfl) (fun _ _ _ h=>h) (by rfl) (fun w hSw=>?_) hHeld ?_
 ·(try dsimp only at hSw)
  unfold oA1
  go_simp
 try simp only[oA1,Act.put,zA,zB,zC]
 refine wpAnyH_ready (rs:=[2]) (by kernel_rfl) (by simp) ?_
 refine AllReadyH.cons (o:=oA2) rfl (fun K hK=>?_) AllReadyH.nil
 unfold oA2
 go_simp
 go_wp2_with fail
 refine(zu D _).mono ?_
 rintro e w3 ⟨rfl,rfl⟩
 go_wp2_with fail
 refine hK.out _ _ K4 (fun hHeld=>?_)
 clear hK K
 try simp only[oA2,Act.put,zA,zB,zC]
 refine tk 3 oA3 (.bool false) rfl (by kernel_rfl) (fun _ _ _ h=>h) (by rfl) (fun w hSw=>?_) hHeld ?_
 ·(try dsimp only at hSw)
  unfold oA3
  go_simp
 try simp only[oA3,Act.put,zA,zB,zC]
 refine tk 4 oA4 (.bool false) rfl (by kernel_rfl) (fun _ _ _ h=>h) (by rfl) (fun w hSw=>?_) hHeld ?_
 ·(try dsimp only at hSw)
  unfold oA4
  go_simp
 try simp only[oA4,Act.put,zA,zB,zC]
 refine tk 5 oA5 (.pointer (some ⟨w.heap.size,1,none⟩)) rfl (by kernel_rfl) (fun _ _ _ h=>h) (by rfl) (fun w hSw=>?_) hHeld ?_
 ·(try dsimp only at hSw)
  unfold oA5
  go_simp
 try simp only[oA5,Act.put,zA,zB,zC]
 refine tk 6 oA6 (.slice x.a x.ps.length x.c) rfl (by kernel_rfl) (fun _ _ _ h=>h) (by rfl) (fun w hSw=>?_) hHeld ?_
 ·(try dsimp only at hSw)
  unfold oA6
  go_simp
 try simp only[oA6,Act.put,zA,zB,zC]
 refine wpAnyH_ready (rs:=[7]) (by kernel_rfl) (by simp) ?_
 refine AllReadyH.cons (o:=oA7) rfl (fun K hK=>?_) AllReadyH.nil
 unfold oA7
 go_simp
 refine hK.out _ _ K4 (fun hHeld=>?_)
 clear hK K
 try simp only[oA7,Act.put,zA,zB,zC]
 refine tk 8 oA8 (.bool false) rfl (by kernel_rfl) (fun _ _ _ h=>h) (by rfl) (fun w hSw=>?_) hHeld ?_
 ·(try dsimp only at hSw)
  unfold oA8
  go_simp
 try simp only[oA8,Act.put,zA,zB,zC]
 refine tk 9 oA9 (.bool false) rfl (by kernel_rfl) (fun _ _ _ h=>h) (by rfl) (fun w hSw=>?_) hHeld ?_
 ·(try dsimp only at hSw)
  unfold oA9
  go_simp
 try simp only[oA9,Act.put,zA,zB,zC]
 refine tk 10 oA10 (.bool false) rfl (by kernel_rfl) (fun _ _ _ h=>h) (by rfl) (fun w hSw=>?_) hHeld ?_
 ·(try dsimp only at hSw)
  unfold oA10
  go_simp
 try simp only[oA10,Act.put,zA,zB,zC]
 refine tk 11 oA11 (.agg #[.int .i64 x.room,.slice x.a x.ps.length x.c]) rfl (by kernel_rfl) (fun _ _ _ h=>h) (by rfl) (fun w hSw=>?_) hHeld ?_
 ·(try dsimp only at hSw)
  unfold oA11
  go_simp
 try simp only[oA11,Act.put,zA,zB,zC]
 refine tk 13 oA13 (.pointer (some ⟨w.heap.size,0,none⟩)) rfl (by kernel_rfl) (fun _ _ _ h=>h) (by rfl) (fun w hSw=>?_) hHeld ?_
 ·(try dsimp only at hSw)
  unfold oA13
  go_simp
 try simp only[oA13,Act.put,zA,zB,zC]
 refine tk 14 oA14 (.int .i64 x.room) rfl (by kernel_rfl) (fun _ _ _ h=>h) (by rfl) (fun w hSw=>?_) hHeld ?_
 ·(try dsimp only at hSw)
  unfold oA14
  go_simp
 try simp only[oA14,Act.put,zA,zB,zC]
 refine wpAnyH_ready (rs:=[12]) (by kernel_rfl) (by simp) ?_
 refine AllReadyH.cons (o:=oA12) rfl (fun K hK=>?_) AllReadyH.nil
 unfold oA12
 go_simp
 go_wp2_with fail
 refine(sSize _ x (zu W0).drew.r hz).mono ?_
 rintro e w4 ⟨rfl,bb⟩
 have bW:=zh (below_of_drew bb)
 have W4:=zh ((zu W0).step (zu bW))
 have K5:=And.intro (zu W4).c0 (zu W4).c1
 clear bb
 go_wp2_with fail
 refine hK.out _ _ K5 (fun hHeld=>?_)
 clear hK K
 try simp only[oA12,Act.put,zA,zB,zC]
 refine tk 15 oA15 (.bool false) rfl (by kernel_rfl) (fun _ _ _ h=>h) (by rfl) (fun w hSw=>?_) hHeld ?_
 ·(try dsimp only at hSw)
  unfold oA15
  go_simp
 try simp only[oA15,Act.put,zA,zB,zC]
 refine tk 16 oA16 (.bool false) rfl (by kernel_rfl) (fun _ _ _ h=>h) (by rfl) (fun w hSw=>?_) hHeld ?_
 ·(try dsimp only at hSw)
  unfold oA16
  go_simp
 try simp only[oA16,Act.put,zA,zB,zC]
 refine wpAnyH_done (by kernel_rfl) ?_ _
 clear W0 K4 K5 c0 c1 lt D bW
 have OK:=zh (fun h:∀i,i<x.ps.length→okAt x.ps i=>decide_eq_true (show OkD x.room x.ps from⟨(zu Q).1,(zu Q).2,q3,h⟩))
 clear q1
 go_wp2_with fail
 go_loopw [3] (fun i wr=>∃(k:Nat),k≤x.ps.length∧i= .int .i64 k∧Hid (∀j,j<k→okAt x.ps j)∧Hid (Wd w wr x)) (fun i _=>x.ps.length-(intOf i).toNat)
 case atStart=>exact⟨0,by omega,rfl,zh (fun j h=>absurd h (by omega)),W4⟩
 case round=>
  clear W4 hHeld
  obtain⟨k,hk,rfl,HY,HW⟩:=hrel
  have c1:=(zu HW).c1
  have lt:=(zu HW).lt
  by_cases t:k<x.ps.length
  ·have kt:(k:Int)<x.ps.length:=by omega
   obtain⟨g,ea,lg,d0,_,_⟩:=cells_of (zu HW).r t
   have NX:=zh (fun(e:okAt x.ps k) j (h:j<k+1)=>show okAt x.ps j from by
    by_cases q:j=k
    ·subst q;exact e
    ·exact(zu HY) j (by omega))
   have BAD:=zh (fun e:¬okAt x.ps k=>decide_eq_false (fun h:OkD x.room x.ps=>e (h.2.2.2 k t)))
   have NM0:=zh (fun u=>sName u (elF x.ps k).1)
   have DF:=zh (show okAt x.ps k↔okN (elF x.ps k).1=true∧(0<k→(elF x.ps (k-1)).1<(elF x.ps k).1) from Iff.rfl)
   rw[ea] at c1
   have RD:=zh (fun(h:0<k)=>(((zu HW).r.r g ea).2 (k-1) (by omega)).1)
   have EY:Hid (∃y,y=(elF x.ps (k-1)).1):=⟨_,rfl⟩
   obtain⟨y,ey⟩:=zu EY
   rw[←ey] at DF RD
   generalize okAt x.ps k=OA at *
   generalize (elF x.ps k).1=z at *
   clear ey EY HY ea
   cases qb:okN z
   ·have F:=zh ((zu BAD) (fun h=>by have:=((zu DF).1 h).1;rw[qb] at this;exact absurd this (by simp)))
    have NM:=zh (fun u=>by have:=(zu NM0) u;rw[qb] at this;exact this)
    have K6:=And.intro c1 d0
    clear BAD NX DF RD NM0 OK
    go_wp2_with fail
    refine wp_region_held_drew (S:=(fun w'=>w'.cell? ⟨w.heap.size,1,none⟩=some (.slice (some ⟨g,0,none⟩) x.ps.length x.c)∧w'.cell? ⟨g,k*3,none⟩=some (.int .i64 z))) (by kernel_rfl) K6 (fun hHeld=>?_)
    refine tk 0 oB0 (.pointer (some ⟨w.heap.size,1,none⟩)) rfl (by kernel_rfl) (fun _ _ _ h=>h) (by rfl) (fun w hSw=>?_) hHeld ?_
    ·(try dsimp only at hSw)
     unfold oB0
     go_simp
    try simp only[oB0,Act.put,zA,zB,zC]
    refine tk 1 oB1 (.slice (some ⟨g,0,none⟩) x.ps.length x.c) rfl (by kernel_rfl) (fun _ _ _ h=>h) (by rfl) (fun w hSw=>?_) hHeld ?_
    ·(try dsimp only at hSw)
     unfold oB1
     go_simp
    try simp only[oB1,Act.put,zA,zB,zC]
    refine tk 2 oB2 (.int .i64 k) rfl (by kernel_rfl) (fun _ _ _ h=>h) (by rfl) (fun w hSw=>?_) hHeld ?_
    ·(try dsimp only at hSw)
     unfold oB2
     go_simp
    try simp only[oB2,Act.put,zA,zB,zC]
    refine tk 3 oB3 (.pointer (some ⟨g,k*3,none⟩)) rfl (by kernel_rfl) (fun _ _ _ h=>h) (by rfl) (fun w hSw=>?_) hHeld ?_
    ·(try dsimp only at hSw)
     unfold oB3
     go_simp
    try simp only[oB3,Act.put,zA,zB,zC]
    refine tk 4 oB4 (.pointer (some ⟨g,k*3,none⟩)) rfl (by kernel_rfl) (fun _ _ _ h=>h) (by rfl) (fun w hSw=>?_) hHeld ?_
    ·(try dsimp only at hSw)
     unfold oB4
     go_simp
    try simp only[oB4,Act.put,zA,zB,zC]
    refine tk 5 oB5 (.int .i64 z) rfl (by kernel_rfl) (fun _ _ _ h=>h) (by rfl) (fun w hSw=>?_) hHeld ?_
    ·(try dsimp only at hSw)
     unfold oB5
     go_simp
    try simp only[oB5,Act.put,zA,zB,zC]
    refine wpAnyH_ready (rs:=[6]) (by kernel_rfl) (by simp) ?_
    refine AllReadyH.cons (o:=oB6) rfl (fun K hK=>?_) AllReadyH.nil
    unfold oB6
    go_simp
    go_wp2_with fail
    refine(zu NM _).mono ?_
    rintro e w5 ⟨rfl,rfl⟩
    go_wp2_with fail
    refine hK.out _ _ K6 (fun hHeld=>?_)
    clear hK K
    try simp only[oB6,Act.put,zA,zB,zC]
    refine tk 7 oB7 (.bool true) rfl (by kernel_rfl) (fun _ _ _ h=>h) (by rfl) (fun w hSw=>?_) hHeld ?_
    ·(try dsimp only at hSw)
     unfold oB7
     go_simp
    try simp only[oB7,Act.put,zA,zB,zC]
    refine tk 8 oB8 (.bool true) rfl (by kernel_rfl) (fun _ _ _ h=>h) (by rfl) (fun w hSw=>?_) hHeld ?_
    ·(try dsimp only at hSw)
     unfold oB8
     go_simp
    try simp only[oB8,Act.put,zA,zB,zC]
    refine sk 9 oB9 rfl (by kernel_rfl) (fun _ _ _ h=>h) (by rfl) hHeld ?_
    try simp only[oB9,Act.put,zA,zB,zC]
    refine sk 10 oB10 rfl (by kernel_rfl) (fun _ _ _ h=>h) (by rfl) hHeld ?_
    try simp only[oB10,Act.put,zA,zB,zC]
    refine sk 11 oB11 rfl (by kernel_rfl) (fun _ _ _ h=>h) (by rfl) hHeld ?_
    try simp only[oB11,Act.put,zA,zB,zC]
    refine sk 12 oB12 rfl (by kernel_rfl) (fun _ _ _ h=>h) (by rfl) hHeld ?_
    try simp only[oB12,Act.put,zA,zB,zC]
    refine sk 13 oB13 rfl (by kernel_rfl) (fun _ _ _ h=>h) (by rfl) hHeld ?_
    try simp only[oB13,Act.put,zA,zB,zC]
    refine sk 14 oB14 rfl (by kernel_rfl) (fun _ _ _ h=>h) (by rfl) hHeld ?_
    try simp only[oB14,Act.put,zA,zB,zC]
    refine sk 15 oB15 rfl (by kernel_rfl) (fun _ _ _ h=>h) (by rfl) hHeld ?_
    try simp only[oB15,Act.put,zA,zB,zC]
    refine sk 16 oB16 rfl (by kernel_rfl) (fun _ _ _ h=>h) (by rfl) hHeld ?_
    try simp only[oB16,Act.put,zA,zB,zC]
    refine sk 17 oB17 rfl (by kernel_rfl) (fun _ _ _ h=>h) (by rfl) hHeld ?_
    try simp only[oB17,Act.put,zA,zB,zC]
    refine sk 18 oB18 rfl (by kernel_rfl) (fun _ _ _ h=>h) (by rfl) hHeld ?_
    try simp only[oB18,Act.put,zA,zB,zC]
    refine sk 19 oB19 rfl (by kernel_rfl) (fun _ _ _ h=>h) (by rfl) hHeld ?_
    try simp only[oB19,Act.put,zA,zB,zC]
    refine sk 20 oB20 rfl (by kernel_rfl) (fun _ _ _ h=>h) (by rfl) hHeld ?_
    try simp only[oB20,Act.put,zA,zB,zC]
    refine sk 21 oB21 rfl (by kernel_rfl) (fun _ _ _ h=>h) (by rfl) hHeld ?_
    try simp only[oB21,Act.put,zA,zB,zC]
    refine sk 22 oB22 rfl (by kernel_rfl) (fun _ _ _ h=>h) (by rfl) hHeld ?_
    try simp only[oB22,Act.put,zA,zB,zC]
    refine sk 23 oB23 rfl (by kernel_rfl) (fun _ _ _ h=>h) (by rfl) hHeld ?_
    try simp only[oB23,Act.put,zA,zB,zC]
    refine sk 24 oB24 rfl (by kernel_rfl) (fun _ _ _ h=>h) (by rfl) hHeld ?_
    try simp only[oB24,Act.put,zA,zB,zC]
    refine sk 25 oB25 rfl (by kernel_rfl) (fun _ _ _ h=>h) (by rfl) hHeld ?_
    try simp only[oB25,Act.put,zA,zB,zC]
    refine sk 26 oB26 rfl (by kernel_rfl) (fun _ _ _ h=>h) (by rfl) hHeld ?_
    try simp only[oB26,Act.put,zA,zB,zC]
    refine tk 27 oB27 (.bool true) rfl (by kernel_rfl) (fun _ _ _ h=>h) (by rfl) (fun w hSw=>?_) hHeld ?_
    ·(try dsimp only at hSw)
     unfold oB27
     go_simp
    try simp only[oB27,Act.put,zA,zB,zC]
    refine wpAnyH_done (by kernel_rfl) ?_ _
    go_wp2
    go_ret
    exact⟨by rw[zu F];rfl,(zu HW).b.drew⟩
   have NM:=zh (fun u=>by have:=(zu NM0) u;rw[qb] at this;exact this)
   by_cases k0:0<k
   ·by_cases qy:y<z
    ·have GN:=zh ((zu NX) ((zu DF).2 ⟨qb,fun _=>qy⟩))
     have p0:=(zu RD) k0
     obtain⟨p,hp⟩:∃p,p=k-1:=⟨_,rfl⟩
     rw[←hp] at p0
     have a1:IntKind.i64.wrap ((k:Int) -1)=p:=by simp[IntKind.wrap,go_sem];omega
     have k1:(k:Int)>0:=by omega
     have pl:(p:Int)<x.ps.length:=by omega
     have qn:¬y≥z:=by omega
     have K6:=And.intro c1 (And.intro d0 p0)
     clear BAD NX DF RD NM0 OK hp qy
     go_wp2_with fail
     refine wp_region_held_drew (S:=(fun w'=>w'.cell? ⟨w.heap.size,1,none⟩=some (.slice (some ⟨g,0,none⟩) x.ps.length x.c)∧w'.cell? ⟨g,k*3,none⟩=some (.int .i64 z)∧w'.cell? ⟨g,p*3,none⟩=some (.int .i64 y))) (by kernel_rfl) K6 (fun hHeld=>?_)
     refine tk 0 oB0 (.pointer (some ⟨w.heap.size,1,none⟩)) rfl (by kernel_rfl) (fun _ _ _ h=>h) (by rfl) (fun w hSw=>?_) hHeld ?_
     ·(try dsimp only at hSw)
      unfold oB0
      go_simp
     try simp only[oB0,Act.put,zA,zB,zC]
     refine tk 1 oB1 (.slice (some ⟨g,0,none⟩) x.ps.length x.c) rfl (by kernel_rfl) (fun _ _ _ h=>h) (by rfl) (fun w hSw=>?_) hHeld ?_
     ·(try dsimp only at hSw)
      unfold oB1
      go_simp
     try simp only[oB1,Act.put,zA,zB,zC]
     refine tk 2 oB2 (.int .i64 k) rfl (by kernel_rfl) (fun _ _ _ h=>h) (by rfl) (fun w hSw=>?_) hHeld ?_
     ·(try dsimp only at hSw)
      unfold oB2
      go_simp
     try simp only[oB2,Act.put,zA,zB,zC]
     refine tk 3 oB3 (.pointer (some ⟨g,k*3,none⟩)) rfl (by kernel_rfl) (fun _ _ _ h=>h) (by rfl) (fun w hSw=>?_) hHeld ?_
     ·(try dsimp only at hSw)
      unfold oB3
      go_simp
     try simp only[oB3,Act.put,zA,zB,zC]
     refine tk 4 oB4 (.pointer (some ⟨g,k*3,none⟩)) rfl (by kernel_rfl) (fun _ _ _ h=>h) (by rfl) (fun w hSw=>?_) hHeld ?_
     ·(try dsimp only at hSw)
      unfold oB4
      go_simp
     try simp only[oB4,Act.put,zA,zB,zC]
     refine tk 5 oB5 (.int .i64 z) rfl (by kernel_rfl) (fun _ _ _ h=>h) (by rfl) (fun w hSw=>?_) hHeld ?_
     ·(try dsimp only at hSw)
      unfold oB5
      go_simp
     try simp only[oB5,Act.put,zA,zB,zC]
     refine wpAnyH_ready (rs:=[6]) (by kernel_rfl) (by simp) ?_
     refine AllReadyH.cons (o:=oB6) rfl (fun K hK=>?_) AllReadyH.nil
     unfold oB6
     go_simp
     go_wp2_with fail
     refine(zu NM _).mono ?_
     rintro e w5 ⟨rfl,rfl⟩
     go_wp2_with fail
     refine hK.out _ _ K6 (fun hHeld=>?_)
     clear hK K
     try simp only[oB6,Act.put,zA,zB,zC]
     refine tk 7 oB7 (.bool false) rfl (by kernel_rfl) (fun _ _ _ h=>h) (by rfl) (fun w hSw=>?_) hHeld ?_
     ·(try dsimp only at hSw)
      unfold oB7
      go_simp
     try simp only[oB7,Act.put,zA,zB,zC]
     refine tk 8 oB8 (.bool false) rfl (by kernel_rfl) (fun _ _ _ h=>h) (by rfl) (fun w hSw=>?_) hHeld ?_
     ·(try dsimp only at hSw)
      unfold oB8
      go_simp
     try simp only[oB8,Act.put,zA,zB,zC]
     refine tk 9 oB9 (.int .i64 k) rfl (by kernel_rfl) (fun _ _ _ h=>h) (by rfl) (fun w hSw=>?_) hHeld ?_
     ·(try dsimp only at hSw)
      unfold oB9
      go_simp
     try simp only[oB9,Act.put,zA,zB,zC]
     refine tk 10 oB10 (.bool true) rfl (by kernel_rfl) (fun _ _ _ h=>h) (by rfl) (fun w hSw=>?_) hHeld ?_
     ·(try dsimp only at hSw)
      unfold oB10
      go_simp
     try simp only[oB10,Act.put,zA,zB,zC]
     refine tk 11 oB11 (.bool true) rfl (by kernel_rfl) (fun _ _ _ h=>h) (by rfl) (fun w hSw=>?_) hHeld ?_
     ·(try dsimp only at hSw)
      unfold oB11
      go_simp
     try simp only[oB11,Act.put,zA,zB,zC]
     refine tk 12 oB12 (.pointer (some ⟨w.heap.size,1,none⟩)) rfl (by kernel_rfl) (fun _ _ _ h=>h) (by rfl) (fun w hSw=>?_) hHeld ?_
     ·(try dsimp only at hSw)
      unfold oB12
      go_simp
     try simp only[oB12,Act.put,zA,zB,zC]
     refine tk 13 oB13 (.slice (some ⟨g,0,none⟩) x.ps.length x.c) rfl (by kernel_rfl) (fun _ _ _ h=>h) (by rfl) (fun w hSw=>?_) hHeld ?_
     ·(try dsimp only at hSw)
      unfold oB13
      go_simp
     try simp only[oB13,Act.put,zA,zB,zC]
     refine tk 14 oB14 (.int .i64 k) rfl (by kernel_rfl) (fun _ _ _ h=>h) (by rfl) (fun w hSw=>?_) hHeld ?_
     ·(try dsimp only at hSw)
      unfold oB14
      go_simp
     try simp only[oB14,Act.put,zA,zB,zC]
     refine tk 15 oB15 (.int .i64 p) rfl (by kernel_rfl) (fun _ _ _ h=>h) (by rfl) (fun w hSw=>?_) hHeld ?_
     ·(try dsimp only at hSw)
      unfold oB15
      go_simp
     try simp only[oB15,Act.put,zA,zB,zC]
     refine tk 16 oB16 (.pointer (some ⟨g,p*3,none⟩)) rfl (by kernel_rfl) (fun _ _ _ h=>h) (by rfl) (fun w hSw=>?_) hHeld ?_
     ·(try dsimp only at hSw)
      unfold oB16
      go_simp
     try simp only[oB16,Act.put,zA,zB,zC]
     refine tk 17 oB17 (.pointer (some ⟨g,p*3,none⟩)) rfl (by kernel_rfl) (fun _ _ _ h=>h) (by rfl) (fun w hSw=>?_) hHeld ?_
     ·(try dsimp only at hSw)
      unfold oB17
      go_simp
     try simp only[oB17,Act.put,zA,zB,zC]
     refine tk 18 oB18 (.int .i64 y) rfl (by kernel_rfl) (fun _ _ _ h=>h) (by rfl) (fun w hSw=>?_) hHeld ?_
     ·(try dsimp only at hSw)
      unfold oB18
      go_simp
     try simp only[oB18,Act.put,zA,zB,zC]
     refine tk 19 oB19 (.pointer (some ⟨w.heap.size,1,none⟩)) rfl (by kernel_rfl) (fun _ _ _ h=>h) (by rfl) (fun w hSw=>?_) hHeld ?_
     ·(try dsimp only at hSw)
      unfold oB19
      go_simp
     try simp only[oB19,Act.put,zA,zB,zC]
     refine tk 20 oB20 (.slice (some ⟨g,0,none⟩) x.ps.length x.c) rfl (by kernel_rfl) (fun _ _ _ h=>h) (by rfl) (fun w hSw=>?_) hHeld ?_
     ·(try dsimp only at hSw)
      unfold oB20
      go_simp
     try simp only[oB20,Act.put,zA,zB,zC]
     refine tk 21 oB21 (.int .i64 k) rfl (by kernel_rfl) (fun _ _ _ h=>h) (by rfl) (fun w hSw=>?_) hHeld ?_
     ·(try dsimp only at hSw)
      unfold oB21
      go_simp
     try simp only[oB21,Act.put,zA,zB,zC]
     refine tk 22 oB22 (.pointer (some ⟨g,k*3,none⟩)) rfl (by kernel_rfl) (fun _ _ _ h=>h) (by rfl) (fun w hSw=>?_) hHeld ?_
     ·(try dsimp only at hSw)
      unfold oB22
      go_simp
     try simp only[oB22,Act.put,zA,zB,zC]
     refine tk 23 oB23 (.pointer (some ⟨g,k*3,none⟩)) rfl (by kernel_rfl) (fun _ _ _ h=>h) (by rfl) (fun w hSw=>?_) hHeld ?_
     ·(try dsimp only at hSw)
      unfold oB23
      go_simp
     try simp only[oB23,Act.put,zA,zB,zC]
     refine tk 24 oB24 (.int .i64 z) rfl (by kernel_rfl) (fun _ _ _ h=>h) (by rfl) (fun w hSw=>?_) hHeld ?_
     ·(try dsimp only at hSw)
      unfold oB24
      go_simp
     try simp only[oB24,Act.put,zA,zB,zC]
     refine tk 25 oB25 (.bool false) rfl (by kernel_rfl) (fun _ _ _ h=>h) (by rfl) (fun w hSw=>?_) hHeld ?_
     ·(try dsimp only at hSw)
      unfold oB25
      go_simp
     try simp only[oB25,Act.put,zA,zB,zC]
     refine tk 26 oB26 (.bool false) rfl (by kernel_rfl) (fun _ _ _ h=>h) (by rfl) (fun w hSw=>?_) hHeld ?_
     ·(try dsimp only at hSw)
      unfold oB26
      go_simp
     try simp only[oB26,Act.put,zA,zB,zC]
     refine tk 27 oB27 (.bool false) rfl (by kernel_rfl) (fun _ _ _ h=>h) (by rfl) (fun w hSw=>?_) hHeld ?_
     ·(try dsimp only at hSw)
      unfold oB27
      go_simp
     try simp only[oB27,Act.put,zA,zB,zC]
     refine wpAnyH_done (by kernel_rfl) ?_ _
     go_wp2
     go_roundw
     case rel=>exact⟨k+1,by omega,by go_num,GN,(zu HW).drew⟩
     case measure=>simp[intOf];omega
    ·have F:=zh ((zu BAD) (fun h=>qy (((zu DF).1 h).2 k0)))
     have p0:=(zu RD) k0
     obtain⟨p,hp⟩:∃p,p=k-1:=⟨_,rfl⟩
     rw[←hp] at p0
     have a1:IntKind.i64.wrap ((k:Int) -1)=p:=by simp[IntKind.wrap,go_sem];omega
     have k1:(k:Int)>0:=by omega
     have pl:(p:Int)<x.ps.length:=by omega
     have qn:y≥z:=by omega
     have K6:=And.intro c1 (And.intro d0 p0)
     clear BAD NX DF RD NM0 OK hp qy
     go_wp2_with fail
     refine wp_region_held_drew (S:=(fun w'=>w'.cell? ⟨w.heap.size,1,none⟩=some (.slice (some ⟨g,0,none⟩) x.ps.length x.c)∧w'.cell? ⟨g,k*3,none⟩=some (.int .i64 z)∧w'.cell? ⟨g,p*3,none⟩=some (.int .i64 y))) (by kernel_rfl) K6 (fun hHeld=>?_)
     refine tk 0 oB0 (.pointer (some ⟨w.heap.size,1,none⟩)) rfl (by kernel_rfl) (fun _ _ _ h=>h) (by rfl) (fun w hSw=>?_) hHeld ?_
     ·(try dsimp only at hSw)
      unfold oB0
      go_simp
     try simp only[oB0,Act.put,zA,zB,zC]
     refine tk 1 oB1 (.slice (some ⟨g,0,none⟩) x.ps.length x.c) rfl (by kernel_rfl) (fun _ _ _ h=>h) (by rfl) (fun w hSw=>?_) hHeld ?_
     ·(try dsimp only at hSw)
      unfold oB1
      go_simp
     try simp only[oB1,Act.put,zA,zB,zC]
     refine tk 2 oB2 (.int .i64 k) rfl (by kernel_rfl) (fun _ _ _ h=>h) (by rfl) (fun w hSw=>?_) hHeld ?_
     ·(try dsimp only at hSw)
      unfold oB2
      go_simp
     try simp only[oB2,Act.put,zA,zB,zC]
     refine tk 3 oB3 (.pointer (some ⟨g,k*3,none⟩)) rfl (by kernel_rfl) (fun _ _ _ h=>h) (by rfl) (fun w hSw=>?_) hHeld ?_
     ·(try dsimp only at hSw)
      unfold oB3
      go_simp
     try simp only[oB3,Act.put,zA,zB,zC]
     refine tk 4 oB4 (.pointer (some ⟨g,k*3,none⟩)) rfl (by kernel_rfl) (fun _ _ _ h=>h) (by rfl) (fun w hSw=>?_) hHeld ?_
     ·(try dsimp only at hSw)
      unfold oB4
      go_simp
     try simp only[oB4,Act.put,zA,zB,zC]
     refine tk 5 oB5 (.int .i64 z) rfl (by kernel_rfl) (fun _ _ _ h=>h) (by rfl) (fun w hSw=>?_) hHeld ?_
     ·(try dsimp only at hSw)
      unfold oB5
      go_simp
     try simp only[oB5,Act.put,zA,zB,zC]
     refine wpAnyH_ready (rs:=[6]) (by kernel_rfl) (by simp) ?_
     refine AllReadyH.cons (o:=oB6) rfl (fun K hK=>?_) AllReadyH.nil
     unfold oB6
     go_simp
     go_wp2_with fail
     refine(zu NM _).mono ?_
     rintro e w5 ⟨rfl,rfl⟩
     go_wp2_with fail
     refine hK.out _ _ K6 (fun hHeld=>?_)
     clear hK K
     try simp only[oB6,Act.put,zA,zB,zC]
     refine tk 7 oB7 (.bool false) rfl (by kernel_rfl) (fun _ _ _ h=>h) (by rfl) (fun w hSw=>?_) hHeld ?_
     ·(try dsimp only at hSw)
      unfold oB7
      go_simp
     try simp only[oB7,Act.put,zA,zB,zC]
     refine tk 8 oB8 (.bool false) rfl (by kernel_rfl) (fun _ _ _ h=>h) (by rfl) (fun w hSw=>?_) hHeld ?_
     ·(try dsimp only at hSw)
      unfold oB8
      go_simp
     try simp only[oB8,Act.put,zA,zB,zC]
     refine tk 9 oB9 (.int .i64 k) rfl (by kernel_rfl) (fun _ _ _ h=>h) (by rfl) (fun w hSw=>?_) hHeld ?_
     ·(try dsimp only at hSw)
      unfold oB9
      go_simp
     try simp only[oB9,Act.put,zA,zB,zC]
     refine tk 10 oB10 (.bool true) rfl (by kernel_rfl) (fun _ _ _ h=>h) (by rfl) (fun w hSw=>?_) hHeld ?_
     ·(try dsimp only at hSw)
      unfold oB10
      go_simp
     try simp only[oB10,Act.put,zA,zB,zC]
     refine tk 11 oB11 (.bool true) rfl (by kernel_rfl) (fun _ _ _ h=>h) (by rfl) (fun w hSw=>?_) hHeld ?_
     ·(try dsimp only at hSw)
      unfold oB11
      go_simp
     try simp only[oB11,Act.put,zA,zB,zC]
     refine tk 12 oB12 (.pointer (some ⟨w.heap.size,1,none⟩)) rfl (by kernel_rfl) (fun _ _ _ h=>h) (by rfl) (fun w hSw=>?_) hHeld ?_
     ·(try dsimp only at hSw)
      unfold oB12
      go_simp
     try simp only[oB12,Act.put,zA,zB,zC]
     refine tk 13 oB13 (.slice (some ⟨g,0,none⟩) x.ps.length x.c) rfl (by kernel_rfl) (fun _ _ _ h=>h) (by rfl) (fun w hSw=>?_) hHeld ?_
     ·(try dsimp only at hSw)
      unfold oB13
      go_simp
     try simp only[oB13,Act.put,zA,zB,zC]
     refine tk 14 oB14 (.int .i64 k) rfl (by kernel_rfl) (fun _ _ _ h=>h) (by rfl) (fun w hSw=>?_) hHeld ?_
     ·(try dsimp only at hSw)
      unfold oB14
      go_simp
     try simp only[oB14,Act.put,zA,zB,zC]
     refine tk 15 oB15 (.int .i64 p) rfl (by kernel_rfl) (fun _ _ _ h=>h) (by rfl) (fun w hSw=>?_) hHeld ?_
     ·(try dsimp only at hSw)
      unfold oB15
      go_simp
     try simp only[oB15,Act.put,zA,zB,zC]
     refine tk 16 oB16 (.pointer (some ⟨g,p*3,none⟩)) rfl (by kernel_rfl) (fun _ _ _ h=>h) (by rfl) (fun w hSw=>?_) hHeld ?_
     ·(try dsimp only at hSw)
      unfold oB16
      go_simp
     try simp only[oB16,Act.put,zA,zB,zC]
     refine tk 17 oB17 (.pointer (some ⟨g,p*3,none⟩)) rfl (by kernel_rfl) (fun _ _ _ h=>h) (by rfl) (fun w hSw=>?_) hHeld ?_
     ·(try dsimp only at hSw)
      unfold oB17
      go_simp
     try simp only[oB17,Act.put,zA,zB,zC]
     refine tk 18 oB18 (.int .i64 y) rfl (by kernel_rfl) (fun _ _ _ h=>h) (by rfl) (fun w hSw=>?_) hHeld ?_
     ·(try dsimp only at hSw)
      unfold oB18
      go_simp
     try simp only[oB18,Act.put,zA,zB,zC]
     refine tk 19 oB19 (.pointer (some ⟨w.heap.size,1,none⟩)) rfl (by kernel_rfl) (fun _ _ _ h=>h) (by rfl) (fun w hSw=>?_) hHeld ?_
     ·(try dsimp only at hSw)
      unfold oB19
      go_simp
     try simp only[oB19,Act.put,zA,zB,zC]
     refine tk 20 oB20 (.slice (some ⟨g,0,none⟩) x.ps.length x.c) rfl (by kernel_rfl) (fun _ _ _ h=>h) (by rfl) (fun w hSw=>?_) hHeld ?_
     ·(try dsimp only at hSw)
      unfold oB20
      go_simp
     try simp only[oB20,Act.put,zA,zB,zC]
     refine tk 21 oB21 (.int .i64 k) rfl (by kernel_rfl) (fun _ _ _ h=>h) (by rfl) (fun w hSw=>?_) hHeld ?_
     ·(try dsimp only at hSw)
      unfold oB21
      go_simp
     try simp only[oB21,Act.put,zA,zB,zC]
     refine tk 22 oB22 (.pointer (some ⟨g,k*3,none⟩)) rfl (by kernel_rfl) (fun _ _ _ h=>h) (by rfl) (fun w hSw=>?_) hHeld ?_
     ·(try dsimp only at hSw)
      unfold oB22
      go_simp
     try simp only[oB22,Act.put,zA,zB,zC]
     refine tk 23 oB23 (.pointer (some ⟨g,k*3,none⟩)) rfl (by kernel_rfl) (fun _ _ _ h=>h) (by rfl) (fun w hSw=>?_) hHeld ?_
     ·(try dsimp only at hSw)
      unfold oB23
      go_simp
     try simp only[oB23,Act.put,zA,zB,zC]
     refine tk 24 oB24 (.int .i64 z) rfl (by kernel_rfl) (fun _ _ _ h=>h) (by rfl) (fun w hSw=>?_) hHeld ?_
     ·(try dsimp only at hSw)
      unfold oB24
      go_simp
     try simp only[oB24,Act.put,zA,zB,zC]
     refine tk 25 oB25 (.bool true) rfl (by kernel_rfl) (fun _ _ _ h=>h) (by rfl) (fun w hSw=>?_) hHeld ?_
     ·(try dsimp only at hSw)
      unfold oB25
      go_simp
     try simp only[oB25,Act.put,zA,zB,zC]
     refine tk 26 oB26 (.bool true) rfl (by kernel_rfl) (fun _ _ _ h=>h) (by rfl) (fun w hSw=>?_) hHeld ?_
     ·(try dsimp only at hSw)
      unfold oB26
      go_simp
     try simp only[oB26,Act.put,zA,zB,zC]
     refine tk 27 oB27 (.bool true) rfl (by kernel_rfl) (fun _ _ _ h=>h) (by rfl) (fun w hSw=>?_) hHeld ?_
     ·(try dsimp only at hSw)
      unfold oB27
      go_simp
     try simp only[oB27,Act.put,zA,zB,zC]
     refine wpAnyH_done (by kernel_rfl) ?_ _
     go_wp2
     go_ret
     exact⟨by rw[zu F];rfl,(zu HW).b.drew⟩
   ·have GN:=zh ((zu NX) ((zu DF).2 ⟨qb,fun h=>absurd h k0⟩))
    have kn:¬(k:Int)>0:=by omega
    have K6:=And.intro c1 d0
    clear BAD NX DF RD NM0 OK
    go_wp2_with fail
    refine wp_region_held_drew (S:=(fun w'=>w'.cell? ⟨w.heap.size,1,none⟩=some (.slice (some ⟨g,0,none⟩) x.ps.length x.c)∧w'.cell? ⟨g,k*3,none⟩=some (.int .i64 z))) (by kernel_rfl) K6 (fun hHeld=>?_)
    refine tk 0 oB0 (.pointer (some ⟨w.heap.size,1,none⟩)) rfl (by kernel_rfl) (fun _ _ _ h=>h) (by rfl) (fun w hSw=>?_) hHeld ?_
    ·(try dsimp only at hSw)
     unfold oB0
     go_simp
    try simp only[oB0,Act.put,zA,zB,zC]
    refine tk 1 oB1 (.slice (some ⟨g,0,none⟩) x.ps.length x.c) rfl (by kernel_rfl) (fun _ _ _ h=>h) (by rfl) (fun w hSw=>?_) hHeld ?_
    ·(try dsimp only at hSw)
     unfold oB1
     go_simp
    try simp only[oB1,Act.put,zA,zB,zC]
    refine tk 2 oB2 (.int .i64 k) rfl (by kernel_rfl) (fun _ _ _ h=>h) (by rfl) (fun w hSw=>?_) hHeld ?_
    ·(try dsimp only at hSw)
     unfold oB2
     go_simp
    try simp only[oB2,Act.put,zA,zB,zC]
    refine tk 3 oB3 (.pointer (some ⟨g,k*3,none⟩)) rfl (by kernel_rfl) (fun _ _ _ h=>h) (by rfl) (fun w hSw=>?_) hHeld ?_
    ·(try dsimp only at hSw)
     unfold oB3
     go_simp
    try simp only[oB3,Act.put,zA,zB,zC]
    refine tk 4 oB4 (.pointer (some ⟨g,k*3,none⟩)) rfl (by kernel_rfl) (fun _ _ _ h=>h) (by rfl) (fun w hSw=>?_) hHeld ?_
    ·(try dsimp only at hSw)
     unfold oB4
     go_simp
    try simp only[oB4,Act.put,zA,zB,zC]
    refine tk 5 oB5 (.int .i64 z) rfl (by kernel_rfl) (fun _ _ _ h=>h) (by rfl) (fun w hSw=>?_) hHeld ?_
    ·(try dsimp only at hSw)
     unfold oB5
     go_simp
    try simp only[oB5,Act.put,zA,zB,zC]
    refine wpAnyH_ready (rs:=[6]) (by kernel_rfl) (by simp) ?_
    refine AllReadyH.cons (o:=oB6) rfl (fun K hK=>?_) AllReadyH.nil
    unfold oB6
    go_simp
    go_wp2_with fail
    refine(zu NM _).mono ?_
    rintro e w5 ⟨rfl,rfl⟩
    go_wp2_with fail
    refine hK.out _ _ K6 (fun hHeld=>?_)
    clear hK K
    try simp only[oB6,Act.put,zA,zB,zC]
    refine tk 7 oB7 (.bool false) rfl (by kernel_rfl) (fun _ _ _ h=>h) (by rfl) (fun w hSw=>?_) hHeld ?_
    ·(try dsimp only at hSw)
     unfold oB7
     go_simp
    try simp only[oB7,Act.put,zA,zB,zC]
    refine tk 8 oB8 (.bool false) rfl (by kernel_rfl) (fun _ _ _ h=>h) (by rfl) (fun w hSw=>?_) hHeld ?_
    ·(try dsimp only at hSw)
     unfold oB8
     go_simp
    try simp only[oB8,Act.put,zA,zB,zC]
    refine tk 9 oB9 (.int .i64 k) rfl (by kernel_rfl) (fun _ _ _ h=>h) (by rfl) (fun w hSw=>?_) hHeld ?_
    ·(try dsimp only at hSw)
     unfold oB9
     go_simp
    try simp only[oB9,Act.put,zA,zB,zC]
    refine tk 10 oB10 (.bool false) rfl (by kernel_rfl) (fun _ _ _ h=>h) (by rfl) (fun w hSw=>?_) hHeld ?_
    ·(try dsimp only at hSw)
     unfold oB10
     go_simp
    try simp only[oB10,Act.put,zA,zB,zC]
    refine tk 11 oB11 (.bool false) rfl (by kernel_rfl) (fun _ _ _ h=>h) (by rfl) (fun w hSw=>?_) hHeld ?_
    ·(try dsimp only at hSw)
     unfold oB11
     go_simp
    try simp only[oB11,Act.put,zA,zB,zC]
    refine sk 12 oB12 rfl (by kernel_rfl) (fun _ _ _ h=>h) (by rfl) hHeld ?_
    try simp only[oB12,Act.put,zA,zB,zC]
    refine sk 13 oB13 rfl (by kernel_rfl) (fun _ _ _ h=>h) (by rfl) hHeld ?_
    try simp only[oB13,Act.put,zA,zB,zC]
    refine sk 14 oB14 rfl (by kernel_rfl) (fun _ _ _ h=>h) (by rfl) hHeld ?_
    try simp only[oB14,Act.put,zA,zB,zC]
    refine sk 15 oB15 rfl (by kernel_rfl) (fun _ _ _ h=>h) (by rfl) hHeld ?_
    try simp only[oB15,Act.put,zA,zB,zC]
    refine sk 16 oB16 rfl (by kernel_rfl) (fun _ _ _ h=>h) (by rfl) hHeld ?_
    try simp only[oB16,Act.put,zA,zB,zC]
    refine sk 17 oB17 rfl (by kernel_rfl) (fun _ _ _ h=>h) (by rfl) hHeld ?_
    try simp only[oB17,Act.put,zA,zB,zC]
    refine sk 18 oB18 rfl (by kernel_rfl) (fun _ _ _ h=>h) (by rfl) hHeld ?_
    try simp only[oB18,Act.put,zA,zB,zC]
    refine sk 19 oB19 rfl (by kernel_rfl) (fun _ _ _ h=>h) (by rfl) hHeld ?_
    try simp only[oB19,Act.put,zA,zB,zC]
    refine sk 20 oB20 rfl (by kernel_rfl) (fun _ _ _ h=>h) (by rfl) hHeld ?_
    try simp only[oB20,Act.put,zA,zB,zC]
    refine sk 21 oB21 rfl (by kernel_rfl) (fun _ _ _ h=>h) (by rfl) hHeld ?_
    try simp only[oB21,Act.put,zA,zB,zC]
    refine sk 22 oB22 rfl (by kernel_rfl) (fun _ _ _ h=>h) (by rfl) hHeld ?_
    try simp only[oB22,Act.put,zA,zB,zC]
    refine sk 23 oB23 rfl (by kernel_rfl) (fun _ _ _ h=>h) (by rfl) hHeld ?_
    try simp only[oB23,Act.put,zA,zB,zC]
    refine sk 24 oB24 rfl (by kernel_rfl) (fun _ _ _ h=>h) (by rfl) hHeld ?_
    try simp only[oB24,Act.put,zA,zB,zC]
    refine sk 25 oB25 rfl (by kernel_rfl) (fun _ _ _ h=>h) (by rfl) hHeld ?_
    try simp only[oB25,Act.put,zA,zB,zC]
    refine tk 26 oB26 (.bool false) rfl (by kernel_rfl) (fun _ _ _ h=>h) (by rfl) (fun w hSw=>?_) hHeld ?_
    ·(try dsimp only at hSw)
     unfold oB26
     go_simp
    try simp only[oB26,Act.put,zA,zB,zC]
    refine tk 27 oB27 (.bool false) rfl (by kernel_rfl) (fun _ _ _ h=>h) (by rfl) (fun w hSw=>?_) hHeld ?_
    ·(try dsimp only at hSw)
     unfold oB27
     go_simp
    try simp only[oB27,Act.put,zA,zB,zC]
    refine wpAnyH_done (by kernel_rfl) ?_ _
    go_wp2
    go_roundw
    case rel=>exact⟨k+1,by omega,by go_num,GN,(zu HW).drew⟩
    case measure=>simp[intOf];omega
  ·have e:k=x.ps.length:=by omega
   have E:=zh ((zu OK) (by rw[←e];exact zu HY))
   clear HY OK
   subst e
   go_wp2
   go_ret
   exact⟨by rw[zu E];rfl,(zu HW).b⟩
end SOk14
namespace SRd14
open Fil14 OpensF14 DiskH14 DkH14 SDk14 SOk14
def bytesAt(ps:List TF)(k:Nat):ByteArray:=(elF ps k).2.1++(elF ps k).2.2
def atD(room:Int)(ps:List TF)(nm:Int):Int×Int:=if OkD room ps∧okN nm=true then(findF ps nm,if findF ps nm<0 then 2 else 0) else(-1,1)
theorem sAt(w:World)(x:Dx)(nm:Int)(hr:RdD w x)(hz:sumZ x.ps≤1048576):
  Calls Tryz.prog 78 #[.agg #[.int .i64 x.room,.slice x.a x.ps.length x.c],.int .i64 nm] w fun e w'=>e= .returned (.tuple #[.int .i64 (atD x.room x.ps nm).1,.int .i64 (atD x.room x.ps nm).2])∧Below w.heap.size w w':=by
 have W0:=zh (Wd.made hr 52)
 have OK0:=zh (sDiskOk _ x (zu W0).r hz)
 have NM0:=zh (fun u=>sName u nm)
 have FD:=zh (fun u h=>sFind u x nm h)
 have RE:=zh (show atD x.room x.ps nm=if OkD x.room x.ps∧okN nm=true then(findF x.ps nm,if findF x.ps nm<0 then 2 else 0) else(-1,1) from rfl)
 generalize atD x.room x.ps nm=rr at *
 generalize findF x.ps nm=f at *
 clear hr
 by_cases q:OkD x.room x.ps
 case neg=>
  have OK:=zh (show Calls Tryz.prog 34 #[.agg #[.int .i64 x.room,.slice x.a x.ps.length x.c]] _ fun e w'=>e= .returned (.bool false)∧Below _ _ w' by have:=zu OK0;rw[decide_eq_false q] at this;exact this)
  have E:=zh (show rr=(-1,1) by rw[zu RE,if_neg (fun h=>q h.1)])
  clear OK0 RE q NM0 FD
  go_enter Tryz.func78,Tryz.ntmps78
  go_wp2_with fail
  refine(zu OK).mono ?_
  rintro e w2 ⟨rfl,b2⟩
  have W2:=zh ((zu W0).step b2)
  clear b2 W0 OK
  go_wp2
  go_ret2
  exact⟨by rw[zu E];rfl,(zu W2).b⟩
 have OK:=zh (show Calls Tryz.prog 34 #[.agg #[.int .i64 x.room,.slice x.a x.ps.length x.c]] _ fun e w'=>e= .returned (.bool true)∧Below _ _ w' by have:=zu OK0;rw[decide_eq_true q] at this;exact this)
 cases qn:okN nm
 ·have NM:=zh (fun u=>by have:=(zu NM0) u;rw[qn] at this;exact this)
  have E:=zh (show rr=(-1,1) by rw[zu RE,if_neg (fun h=>by rw[qn] at h;exact absurd h.2 (by simp))])
  clear OK0 RE q NM0 FD
  go_enter Tryz.func78,Tryz.ntmps78
  go_wp2_with fail
  refine(zu OK).mono ?_
  rintro e w2 ⟨rfl,b2⟩
  have W2:=zh ((zu W0).step b2)
  clear b2 W0 OK
  go_wp2_with fail
  refine(zu NM _).mono ?_
  rintro e w3 ⟨rfl,rfl⟩
  go_wp2
  go_ret2
  exact⟨by rw[zu E];rfl,(zu W2).b⟩
 ·have NM:=zh (fun u=>by have:=(zu NM0) u;rw[qn] at this;exact this)
  have E:=zh (show rr=(f,if f<0 then 2 else 0) by rw[zu RE,if_pos ⟨q,qn⟩])
  clear OK0 RE q NM0
  by_cases q0:f<0
  ·have E1:=zh (show rr=(f,2) by rw[zu E,if_pos q0])
   clear E
   go_enter Tryz.func78,Tryz.ntmps78
   go_wp2_with fail
   refine(zu OK).mono ?_
   rintro e w2 ⟨rfl,b2⟩
   have W2:=zh ((zu W0).step b2)
   clear b2 W0 OK
   go_wp2_with fail
   refine(zu NM _).mono ?_
   rintro e w3 ⟨rfl,rfl⟩
   have c0:=(zu W2).c0
   have c1:=(zu W2).c1
   go_wp2_with fail
   refine((zu FD) _ (zu W2).r).mono ?_
   rintro e w4 ⟨rfl,b4⟩
   have W4:=zh ((zu W2).step b4)
   clear b4 W2 c0 c1 FD
   go_wp2
   go_ret2
   exact⟨by rw[zu E1];rfl,(zu W4).b⟩
  ·have E1:=zh (show rr=(f,0) by rw[zu E,if_neg q0])
   clear E
   go_enter Tryz.func78,Tryz.ntmps78
   go_wp2_with fail
   refine(zu OK).mono ?_
   rintro e w2 ⟨rfl,b2⟩
   have W2:=zh ((zu W0).step b2)
   clear b2 W0 OK
   go_wp2_with fail
   refine(zu NM _).mono ?_
   rintro e w3 ⟨rfl,rfl⟩
   have c0:=(zu W2).c0
   have c1:=(zu W2).c1
   go_wp2_with fail
   refine((zu FD) _ (zu W2).r).mono ?_
   rintro e w4 ⟨rfl,b4⟩
   have W4:=zh ((zu W2).step b4)
   clear b4 W2 c0 c1 FD
   go_wp2
   go_ret2
   exact⟨by rw[zu E1];rfl,(zu W4).b⟩
end SRd14
namespace Conv15
open SBytes
theorem of_bytes(w:World)(g c:Nat)(xs:List Int)(h:ByteH.At w g xs):(convert 63 9 (.slice (some ⟨g,0,none⟩) xs.length c)).run Tryz.prog w= .ok (.string (strOfNums xs)) w:=
 run_convert_bytes_arg w 63 5 Tryz.underlying63 Tryz.underlying5 g 0 xs.length c xs rfl (fun i hi=>by rw[Nat.zero_add];exact h i hi) 9 Tryz.underlying9
end Conv15
namespace SegP15
open Fil14 DiskH14 SDk14 SOk14 SRd14 Conv15
def okS(n:Int):Bool:=decide (0≤n∧n≤19)
end SegP15
namespace App14
open Fil14 OpensF14 DiskH14 DkH14 SDk14 SOk14 SRd14
theorem kcell{W W':World}{G g:Nat}(k:W.grownBy W' (some G))(o:Nat)(hg:g<W.heap.size)(hG:g≠G):W'.cell? ⟨g,o,none⟩=W.cell? ⟨g,o,none⟩:=
 World.cell?_of_block (w:=W) (k.block g hg (by simpa using hG))
theorem grow_grow{w w1 w2:World}{row:Option Nat}(h:w.grownBy w1 row)(k:w1.grownBy w2 row):w.grownBy w2 row:=
 ⟨k.os.trans h.os,k.tape.trans h.tape,k.output.trans h.output,Nat.le_trans h.size k.size,fun i hi hr=>(k.block i (Nat.lt_of_lt_of_le hi h.size) hr).trans (h.block i hi hr)⟩
theorem grow_app{Wk wr u9:World}{lit:Obj}{row:Option Nat}{G:Nat}(h:Wk.grownBy wr (some G))(k:(wr.drew.alloc lit).grownBy u9 row)(hr:∀j,row=some j→Wk.heap.size≤j):Wk.grownBy u9 (some G):=
 ⟨k.os.trans h.os,k.tape.trans h.tape,k.output.trans h.output,Nat.le_trans h.size (Nat.le_trans (show wr.heap.size≤(wr.drew.alloc lit).heap.size from by show wr.heap.size≤(wr.drew.heap.push lit).size;rw[Array.size_push];exact Nat.le_succ _) k.size),fun i hi hG=>by
  have l:i<wr.drew.heap.size:=Nat.lt_of_lt_of_le hi h.size
  refine(k.block i (by simp;exact Nat.lt_succ_of_lt l) (fun e=>by have:=hr i e.symm;omega)).trans ?_
  exact(Below.heap_alloc wr.drew lit i l).trans (h.block i hi hG)⟩
theorem row_kept{W W':World}{base G:Nat}{e:TypeId}{m:Nat}{v:Value}{n:Nat}{vs:List Value}(h:W.ownsRow base e m v n vs)(k:W.grownBy W' (some G))(hG:G<base):W'.ownsRow base e m v n vs:=
 World.ownsRow.kept h k (by
  cases hb:v.ownBlock with
  |none=>exact .inl rfl
  |some g=>exact .inr (fun e=>by have:=(World.ownsRow.lt h g hb).1;injection e with e;omega))
theorem step_app(u:World){ops:Array Oper}{o:Oper}{a:Act}{K:Act→World→Prop}{Q:Exit→Act→World→Prop}{E:Prop}(hgd:o.guard=none)(s x:Operand)(t e:TypeId)
  (ho:o.op= .call {callee:= .builtin .append,args:= #[s,x],argTypes:= #[t,t]})(z:Value)(size bytes:Nat)(ht:Tryz.prog.underlying t=some (.slice e))(hi:(Tryz.prog.info? e).map (fun i=>(i.zero,i.size,i.bytes))=some (some z,size,bytes))(hzs:z.cells.size=size)(hsz:0<size)(hby:bytes≤64)
  (base:Nat)(v:Value)(n:Nat)(xs:List Value)(vb:Nat)(news:List Value)(hs:a.eval s=v)(hx:a.eval x= .slice (some ⟨vb,0,none⟩) 1 1)(hown:u.ownsRow base e size v n xs)(hl:news.length=size)(hc:∀j w,news[j]?=some w→u.cell? ⟨vb,j,none⟩=some w)(h1:∀w∈news,w.oneCell'=true)(hn:n≤1048576)(hb:base≤u.heap.size)
  (h:∀g' c' w',w'.ownsRow base e size (.slice (some ⟨g',0,none⟩) (n+1) c') (n+1) (xs++news)→u.grownBy w' v.ownBlock→K (a.put o.dst (.slice (some ⟨g',0,none⟩) (n+1) c')) w'):if Region.wanted o (yielded ops a.tmps)=true then Oper.wp Tryz.prog o a u K Q else E:=by
 obtain⟨i0,hi,hz0,hz1,hz2⟩:=info_parts hi
 have hw:Region.wanted o (yielded ops a.tmps)=true:=by simp[Region.wanted,hgd]
 rw[if_pos hw]
 obtain⟨v',w',hr,own',gr',nil',loc'⟩:=run_append_own_at (P:=Tryz.prog) u base t o.type e i0 z size bytes ht hi hz0 hz1 hz2 hzs hsz v n xs hown ⟨vb,0,none⟩ 1 1 news (by omega) (fun j w hj=>by rw[Addr.add_lit,Nat.zero_add];exact hc j w hj) h1 (by unfold maxLen;omega) (by have:(n+1)*bytes≤1048577*64:=Nat.mul_le_mul (by omega) hby;omega) hb
 unfold Oper.wp execOp
 simp only[ho,resolve,invoke,builtin,Sem.run_bind,Sem.run_pure,Result.andThen_ok,List.map_toArray,List.map_cons,List.map_nil,hs,hx,hr]
 rcases own'.2 with⟨e1,_⟩|⟨g',c',cur,rfl,_⟩
 ·rw[e1] at nil';simp at nil'
 ·exact h g' c' w' own' gr'
theorem row_base{W:World}{base base':Nat}{e:TypeId}{m:Nat}{v:Value}{n:Nat}{vs:List Value}(h:W.ownsRow base e m v n vs)(hb:base'≤base):W.ownsRow base' e m v n vs:=
 ⟨h.1,by
  rcases h.2 with h|⟨g,c,cur,h1,h2,h3⟩
  ·exact .inl h
  ·exact .inr ⟨g,c,cur,h1,Nat.le_trans hb h2,h3⟩⟩
theorem litm(u:World)(news:List Value)(e:TypeId)(arr:Array Value)(h:arr=news.toArray):∀j w,news[j]?=some w→(u.alloc (.cells arr e)).cell? ⟨u.heap.size,j,none⟩=some w:=by
 subst h
 intro j w hj
 simpa using hj
theorem flat_1(ps:List TF)(p:TF):flatF (ps++[p])=flatF ps++[.int .i64 p.1,.string p.2.1,.string p.2.2]:=by simp[flatF]
end App14
namespace SLess14
open Fil14 OpensF14 DiskH14 DkH14 SDk14 SOk14 SRd14 App14
open DkH14 (row_step)
def lessN(ps:List TF)(nm:Int):Nat→List TF
 |0=>[]
 |k+1=>if(k:Int)=nm then lessN ps nm k else lessN ps nm k++[elF ps k]
theorem grow_low{B:Nat}{w W W':World}{G:Nat}(h:Below B w W)(k:W.grownBy W' (some G))(hB:B≤G∧B≤W.heap.size):Below B w W':=
 ⟨k.os.trans h.os,k.tape.trans h.tape,k.output.trans h.output,Nat.le_trans h.size k.size,fun i hi=>(k.block i (by omega) (by simp;omega)).trans (h.block i hi)⟩
theorem bc_set1{w:World}{base g:Nat}{v0 v1:Value}(h:Bc w base g v0 v1)(u:Value):Bc (w.setCell ⟨g,1,none⟩ u) base g v0 u∧w.grownBy (w.setCell ⟨g,1,none⟩ u) (some g):=World.ownsRow.stored h 1 u
abbrev oL0:Oper:={dst:=some 20,op:=Go.Op.fieldAddr 52 (Go.Operand.tmp 5) 1,type:=0,pos:= "l14_disk.go:72",after:= #[],guard:=none}
abbrev oL1:Oper:={dst:=some 21,op:=Go.Op.load 50 (Go.Operand.tmp 20),type:=50,pos:= "l14_disk.go:72",after:= #[{on:=0,ground:=Go.Ground.data}],guard:=none}
abbrev oL2:Oper:={dst:=some 22,op:=Go.Op.fieldAddr 52 (Go.Operand.tmp 2) 1,type:=0,pos:= "l14_disk.go:72",after:= #[],guard:=none}
abbrev oL3:Oper:={dst:=some 23,op:=Go.Op.load 50 (Go.Operand.tmp 22),type:=50,pos:= "l14_disk.go:72",after:= #[{on:=2,ground:=Go.Ground.data}],guard:=none}
abbrev oL4:Oper:={dst:=some 24,op:=Go.Op.move (Go.Operand.tmp 6),type:=3,pos:= "l14_disk.go:72",after:= #[],guard:=none}
abbrev oL5:Oper:={dst:=some 25,op:=Go.Op.indexAddr 50 (Go.Operand.tmp 23) (Go.Operand.tmp 24),type:=0,pos:= "l14_disk.go:72",after:= #[{on:=3,ground:=Go.Ground.data},{on:=4,ground:=Go.Ground.data}],guard:=none}
abbrev oL6:Oper:={dst:=some 26,op:=Go.Op.load 120 (Go.Operand.tmp 25),type:=120,pos:= "l14_disk.go:72",after:= #[{on:=5,ground:=Go.Ground.data}],guard:=none}
abbrev oL7:Oper:={dst:=some 27,op:=Go.Op.buildSlice 50 1 #[(0,Go.Operand.tmp 26)],type:=50,pos:= "l14_disk.go:72",after:= #[{on:=6,ground:=Go.Ground.data}],guard:=none}
abbrev oL8:Oper:={dst:=some 28,op:=Go.Op.call {callee:=Go.Callee.builtin Go.Builtin.append,args:= #[Go.Operand.tmp 21,Go.Operand.tmp 27],argTypes:= #[50,50]},type:=50,pos:= "l14_disk.go:72",after:= #[{on:=1,ground:=Go.Ground.data},{on:=7,ground:=Go.Ground.data}],guard:=none}
abbrev oL9:Oper:={dst:=some 29,op:=Go.Op.fieldAddr 52 (Go.Operand.tmp 5) 1,type:=0,pos:= "l14_disk.go:72",after:= #[{on:=0,ground:=Go.Ground.phase},{on:=1,ground:=Go.Ground.phase},{on:=2,ground:=Go.Ground.phase},{on:=3,ground:=Go.Ground.phase},{on:=4,ground:=Go.Ground.phase},{on:=5,ground:=Go.Ground.phase},{on:=6,ground:=Go.Ground.phase},{on:=7,ground:=Go.Ground.phase},{on:=8,ground:=Go.Ground.phase}],guard:=none}
abbrev oL10:Oper:={dst:=none,op:=Go.Op.store 50 (Go.Operand.tmp 29) (Go.Operand.tmp 28),type:=0,pos:= "l14_disk.go:72",after:= #[{on:=9,ground:=Go.Ground.data},{on:=8,ground:=Go.Ground.data},{on:=8,ground:=Go.Ground.chain},{on:=0,ground:=Go.Ground.phase},{on:=1,ground:=Go.Ground.phase},{on:=2,ground:=Go.Ground.phase},{on:=3,ground:=Go.Ground.phase},{on:=4,ground:=Go.Ground.phase},{on:=5,ground:=Go.Ground.phase},{on:=6,ground:=Go.Ground.phase},{on:=7,ground:=Go.Ground.phase},{on:=8,ground:=Go.Ground.phase}],guard:=none}
theorem sLess(w:World)(x:Dx)(nm:Int)(hr:RdD w x):
  Calls Tryz.prog 37 #[.agg #[.int .i64 x.room,.slice x.a x.ps.length x.c],.int .i64 nm] w fun e w'=>∃y:Dx,y.room=x.room∧y.ps=lessN x.ps nm x.ps.length∧e= .returned (.agg #[.int .i64 y.room,.slice y.a y.ps.length y.c])∧OwD w' w.heap.size y∧Below w.heap.size w w':=by
 have F:∀W1,W1=w.alloc (.cells #[.int .i64 x.room,.slice x.a x.ps.length x.c] 52)→∀W2,W2=W1.alloc (.cells #[.int .i64 0,.slice none 0 0] 52)→∀W3,W3=W2.alloc (.cells #[.int .i64 x.room,.slice none 0 0] 52)→
   Wd w W3 x∧Bc W3 w.heap.size (w.heap.size+1) (.int .i64 0) (.slice none 0 0)∧Bc W3 w.heap.size (w.heap.size+1+1) (.int .i64 x.room) (.slice none 0 0)∧W3.heap.size=w.heap.size+3:=by
  intro W1 h1 W2 h2 W3 h3
  have s1:W1.heap.size=w.heap.size+1:=by rw[h1];simp
  have s2:W2.heap.size=w.heap.size+1+1:=by rw[h2];simp[s1]
  have s3:W3.heap.size=w.heap.size+3:=by rw[h3];simp[s2]
  have d1:Wd w W1 x:=by rw[h1];exact Wd.made hr _
  have b2:Below W1.heap.size W1 W2:=by rw[h2];exact one_more _ _
  have b3:Below W2.heap.size W2 W3:=by rw[h3];exact one_more _ _
  have R1:Bc W2 w.heap.size (w.heap.size+1) (.int .i64 0) (.slice none 0 0):=by rw[h2];exact Bc.made _ _ (by omega) s1.symm
  have O1:Bc W3 w.heap.size (w.heap.size+1+1) (.int .i64 x.room) (.slice none 0 0):=by rw[h3];exact Bc.made _ _ (by omega) s2.symm
  exact⟨(d1.step b2).step b3,R1.below b3 (by omega),O1,s3⟩
 have G0:=zh (F _ rfl _ rfl _ rfl)
 have G1:=zh (fun g e=>(hr.r g e).1)
 have h20:=hr.n
 clear F hr
 go_enter Tryz.func37,Tryz.ntmps37
 go_wp2_with fail
 generalize ((w.alloc (.cells #[.int .i64 x.room,.slice x.a x.ps.length x.c] 52)).alloc (.cells #[.int .i64 0,.slice none 0 0] 52)).alloc (.cells #[.int .i64 x.room,.slice none 0 0] 52)=W at *
 obtain⟨WD,RB,OB,s3⟩:=zu G0
 have HWD:=zh WD
 have HRB:=zh RB
 clear G0 WD RB
 go_loopw [6] (fun i wr=>∃(k m c:Nat) (a:Option Addr),i= .int .i64 k∧k≤x.ps.length∧m≤k∧Hid (W.grownBy wr (some (w.heap.size+1+1)))∧Hid (Bc wr w.heap.size (w.heap.size+1+1) (.int .i64 x.room) (.slice a m c))∧Hid (wr.ownsRow W.heap.size 120 3 (.slice a m c) m (flatF (lessN x.ps nm k)))) (fun i _=>x.ps.length-(intOf i).toNat)
 case atStart=>exact⟨0,0,0,none,rfl,by omega,by omega,zh (World.grownBy.refl _ _),zh OB,zh ⟨rfl,.inl ⟨rfl,rfl⟩⟩⟩
 case round=>
  clear OB
  obtain⟨k,m,c,a,rfl,hk,hm,GR,BX,OW⟩:=hrel
  have gs:=(zu GR).size
  have lt:w.heap.size+2<wr.heap.size:=by omega
  have c1:=(kcell (zu GR) 1 (show w.heap.size<W.heap.size from by omega) (by omega)).trans (zu HWD).c1
  by_cases t:k<x.ps.length
  ·have kt:(k:Int)<x.ps.length:=by omega
   by_cases q:(k:Int)=nm
   ·have TK:=zh (show lessN x.ps nm (k+1)=lessN x.ps nm k from if_pos q)
    subst q
    go_wp2
    go_roundw
    case rel=>exact⟨k+1,m,c,a,by go_num,by omega,by omega,GR,BX,zh (by rw[zu TK];exact zu OW)⟩
    case measure=>simp[intOf];omega
   ·have TK:=zh (show lessN x.ps nm (k+1)=lessN x.ps nm k++[elF x.ps k] from if_neg q)
    obtain⟨g,ea,lg,e0,e1,e2⟩:=cells_of (zu HWD).r t
    have lg0:=(zu G1) g ea
    have gn:g≠w.heap.size+1+1:=by omega
    have d0:=(kcell (zu GR) (k*3) lg gn).trans e0
    have d1:=(kcell (zu GR) (k*3+1) lg gn).trans e1
    have d2:=(kcell (zu GR) (k*3+2) lg gn).trans e2
    rw[ea] at c1
    generalize hp:elF x.ps k=p at *
    obtain⟨z0,z1,z2⟩:=p
    simp only at d0 d1 d2
    clear e0 e1 e2 ea hp
    have K0:wr.cell? ⟨w.heap.size,1,none⟩=some (.slice (some ⟨g,0,none⟩) x.ps.length x.c)∧wr.cell? ⟨g,k*3,none⟩=some (.int .i64 z0)∧wr.cell? ⟨g,k*3+1,none⟩=some (.string z1)∧wr.cell? ⟨g,k*3+2,none⟩=some (.string z2):=⟨c1,d0,d1,d2⟩
    have KB:(wr.drew.alloc (.cells #[.int .i64 z0,.string z1,.string z2] 120)).cell? ⟨w.heap.size,1,none⟩=some (.slice (some ⟨g,0,none⟩) x.ps.length x.c)∧(wr.drew.alloc (.cells #[.int .i64 z0,.string z1,.string z2] 120)).cell? ⟨g,k*3,none⟩=some (.int .i64 z0)∧(wr.drew.alloc (.cells #[.int .i64 z0,.string z1,.string z2] 120)).cell? ⟨g,k*3+1,none⟩=some (.string z1)∧(wr.drew.alloc (.cells #[.int .i64 z0,.string z1,.string z2] 120)).cell? ⟨g,k*3+2,none⟩=some (.string z2):=⟨((one_more wr.drew (.cells #[.int .i64 z0,.string z1,.string z2] 120)).cell (p:=⟨w.heap.size,1,none⟩) (show w.heap.size<wr.heap.size from by omega)).trans c1,((one_more wr.drew (.cells #[.int .i64 z0,.string z1,.string z2] 120)).cell (p:=⟨g,k*3,none⟩) (show g<wr.heap.size from by omega)).trans d0,((one_more wr.drew (.cells #[.int .i64 z0,.string z1,.string z2] 120)).cell (p:=⟨g,k*3+1,none⟩) (show g<wr.heap.size from by omega)).trans d1,((one_more wr.drew (.cells #[.int .i64 z0,.string z1,.string z2] 120)).cell (p:=⟨g,k*3+2,none⟩) (show g<wr.heap.size from by omega)).trans d2⟩
    have bc:=(zu BX).c1
    have bcD:wr.drew.cell? ⟨w.heap.size+1+1,1,none⟩=some (.slice a m c):=bc
    have bcA:(wr.alloc (.cells #[.int .i64 z0,.string z1,.string z2] 120)).cell? ⟨w.heap.size+1+1,1,none⟩=some (.slice a m c):=((one_more wr.drew (.cells #[.int .i64 z0,.string z1,.string z2] 120)).cell (p:=⟨w.heap.size+1+1,1,none⟩) (show w.heap.size+1+1<wr.heap.size from by omega)).trans bc
    go_wp2_with fail
    refine wp_region_held_drew (S:=(fun w'=>w'.cell? ⟨w.heap.size,1,none⟩=some (.slice (some ⟨g,0,none⟩) x.ps.length x.c)∧w'.cell? ⟨g,k*3,none⟩=some (.int .i64 z0)∧w'.cell? ⟨g,k*3+1,none⟩=some (.string z1)∧w'.cell? ⟨g,k*3+2,none⟩=some (.string z2))) (by kernel_rfl) K0 (fun hHeld=>?_)
    refine tk 0 oL0 (.pointer (some ⟨w.heap.size+1+1,1,none⟩)) rfl (by kernel_rfl) (fun _ _ _ h=>h) (by rfl) (fun w hSw=>?_) hHeld ?_
    ·(try dsimp only at hSw)
     unfold oL0
     go_simp
    try simp only[oL0,Act.put,zA,zB,zC]
    refine tk 2 oL2 (.pointer (some ⟨w.heap.size,1,none⟩)) rfl (by kernel_rfl) (fun _ _ _ h=>h) (by rfl) (fun w hSw=>?_) hHeld ?_
    ·(try dsimp only at hSw)
     unfold oL2
     go_simp
    try simp only[oL2,Act.put,zA,zB,zC]
    refine tk 3 oL3 (.slice (some ⟨g,0,none⟩) x.ps.length x.c) rfl (by kernel_rfl) (fun _ _ _ h=>h) (by rfl) (fun w hSw=>?_) hHeld ?_
    ·(try dsimp only at hSw)
     unfold oL3
     go_simp
    try simp only[oL3,Act.put,zA,zB,zC]
    refine tk 4 oL4 (.int .i64 k) rfl (by kernel_rfl) (fun _ _ _ h=>h) (by rfl) (fun w hSw=>?_) hHeld ?_
    ·(try dsimp only at hSw)
     unfold oL4
     go_simp
    try simp only[oL4,Act.put,zA,zB,zC]
    refine tk 5 oL5 (.pointer (some ⟨g,k*3,none⟩)) rfl (by kernel_rfl) (fun _ _ _ h=>h) (by rfl) (fun w hSw=>?_) hHeld ?_
    ·(try dsimp only at hSw)
     unfold oL5
     go_simp
    try simp only[oL5,Act.put,zA,zB,zC]
    refine tk 6 oL6 (.agg #[.int .i64 z0,.string z1,.string z2]) rfl (by kernel_rfl) (fun _ _ _ h=>h) (by rfl) (fun w hSw=>?_) hHeld ?_
    ·(try dsimp only at hSw)
     unfold oL6
     go_simp
    try simp only[oL6,Act.put,zA,zB,zC]
    refine wpAnyH_ready (rs:=[1,7]) (by kernel_rfl) (by simp) ?_
    refine AllReadyH.cons (o:=oL1) rfl (fun K hK=>?_) (AllReadyH.cons (o:=oL7) rfl (fun K hK=>?_) AllReadyH.nil)
    ·unfold oL1
     go_simp
     refine hK.out _ _ K0 (fun hHeld=>?_)
     clear hK K
     try simp only[oL1,Act.put,zA,zB,zC]
     refine wpAnyH_ready (rs:=[7]) (by kernel_rfl) (by simp) ?_
     refine AllReadyH.cons (o:=oL7) rfl (fun K hK=>?_) AllReadyH.nil
     unfold oL7
     go_simp
     refine hK.out _ _ KB (fun hHeld=>?_)
     clear hK K
     try simp only[oL7,Act.put,zA,zB,zC]
     refine wpAnyH_ready (rs:=[8]) (by kernel_rfl) (by simp) ?_
     refine AllReadyH.cons (o:=oL8) rfl (fun K hK=>?_) AllReadyH.nil
     refine step_app (wr.drew.alloc (.cells #[.int .i64 z0,.string z1,.string z2] 120)) (by rfl) _ _ 50 120 (by rfl) (.agg #[.int .i64 0,.string ByteArray.empty,.string ByteArray.empty]) 3 40 Tryz.underlying50 HelpF14.info2 rfl (by decide) (by decide) W.heap.size (.slice a m c) m (flatF (lessN x.ps nm k)) wr.drew.heap.size [.int .i64 z0,.string z1,.string z2] (by rfl) (by rfl) (row_step (W:=wr.drew) (zu OW) (one_more wr.drew (.cells #[.int .i64 z0,.string z1,.string z2] 120))) rfl (litm wr.drew _ _ _ (by rfl)) (by simp[Value.oneCell']) (by omega) (Nat.le_trans (show W.heap.size≤wr.drew.heap.size from gs) (by simp)) ?_
     intro g9 c9 u9 o9 gr9
     have BL:∀j,(Value.slice a m c).ownBlock=some j→W.heap.size≤j:=fun j hj=>(World.ownsRow.lt (zu OW) j hj).1
     have GR9:=zh (grow_app (zu GR) gr9 BL)
     have NG:some (w.heap.size+1+1)≠(Value.slice a m c).ownBlock:=fun e=>by have:=BL _ e.symm;omega
     have BX9:=zh (((show Bc wr.drew w.heap.size (w.heap.size+1+1) (.int .i64 x.room) (.slice a m c) from zu BX).below (one_more wr.drew (.cells #[.int .i64 z0,.string z1,.string z2] 120)) (show w.heap.size+1+1<wr.heap.size from by omega)).kept gr9 NG)
     have O9:=zh o9
     have fr9:u9.frozen? ⟨w.heap.size+1+1,1,none⟩=false:=(zu BX9).free 1
     have bc9:=(zu BX9).c1
     have g9l:=(World.ownsRow.lt o9 g9 rfl).1
     have gs9:=(zu GR9).size
     have KC:u9.cell? ⟨w.heap.size,1,none⟩=some (.slice (some ⟨g,0,none⟩) x.ps.length x.c)∧u9.cell? ⟨g,k*3,none⟩=some (.int .i64 z0)∧u9.cell? ⟨g,k*3+1,none⟩=some (.string z1)∧u9.cell? ⟨g,k*3+2,none⟩=some (.string z2):=⟨gr9.cell KB.1 (fun e=>by have:=BL _ e.symm;simp only at this;omega),gr9.cell KB.2.1 (fun e=>by have:=BL _ e.symm;simp only at this;omega),gr9.cell KB.2.2.1 (fun e=>by have:=BL _ e.symm;simp only at this;omega),gr9.cell KB.2.2.2 (fun e=>by have:=BL _ e.symm;simp only at this;omega)⟩
     have SB:=bc_set1 (zu BX9) (.slice (some ⟨g9,0,none⟩) (m+1) c9)
     have SB2:=zh SB
     have KD:(u9.setCell ⟨w.heap.size+1+1,1,none⟩ (.slice (some ⟨g9,0,none⟩) (m+1) c9)).cell? ⟨w.heap.size,1,none⟩=some (.slice (some ⟨g,0,none⟩) x.ps.length x.c)∧(u9.setCell ⟨w.heap.size+1+1,1,none⟩ (.slice (some ⟨g9,0,none⟩) (m+1) c9)).cell? ⟨g,k*3,none⟩=some (.int .i64 z0)∧(u9.setCell ⟨w.heap.size+1+1,1,none⟩ (.slice (some ⟨g9,0,none⟩) (m+1) c9)).cell? ⟨g,k*3+1,none⟩=some (.string z1)∧(u9.setCell ⟨w.heap.size+1+1,1,none⟩ (.slice (some ⟨g9,0,none⟩) (m+1) c9)).cell? ⟨g,k*3+2,none⟩=some (.string z2):=⟨(kcell SB.2 (1) (show w.heap.size<u9.heap.size from by omega) (show w.heap.size≠w.heap.size+1+1 from by omega)).trans KC.1,(kcell SB.2 (k*3) (show g<u9.heap.size from by omega) gn).trans KC.2.1,(kcell SB.2 (k*3+1) (show g<u9.heap.size from by omega) gn).trans KC.2.2.1,(kcell SB.2 (k*3+2) (show g<u9.heap.size from by omega) gn).trans KC.2.2.2⟩
     clear o9 SB
     refine hK.out _ _ KC (fun hHeld=>?_)
     clear hK K
     try simp only[oL8,Act.put,zA,zB,zC]
     refine tk 9 oL9 (.pointer (some ⟨w.heap.size+1+1,1,none⟩)) rfl (by kernel_rfl) (fun _ _ _ h=>h) (by rfl) (fun w hSw=>?_) hHeld ?_
     ·(try dsimp only at hSw)
      unfold oL9
      go_simp
     try simp only[oL9,Act.put,zA,zB,zC]
     refine wpAnyH_ready (rs:=[10]) (by kernel_rfl) (by simp) ?_
     refine AllReadyH.cons (o:=oL10) rfl (fun K hK=>?_) AllReadyH.nil
     unfold oL10
     go_simp
     refine hK.out _ _ KD (fun hHeld=>?_)
     clear hK K
     try simp only[oL10,Act.put,zA,zB,zC]
     refine wpAnyH_done (by kernel_rfl) ?_ _
     clear K0 KB KC KD gr9 bc bcD bcA bc9 fr9
     have GRS:=zh (grow_grow (zu GR9) (zu SB2).2)
     have BXS:=zh (zu SB2).1
     have OWS:=zh (row_kept (zu O9) (zu SB2).2 (by omega))
     clear SB2
     go_wp2
     go_roundw
     case rel=>exact⟨k+1,m+1,c9,some ⟨g9,0,none⟩,by go_num,by omega,by omega,GRS,BXS,zh (by have h:=zu OWS;rw[zu TK];rw[flat_1];exact h)⟩
     case measure=>simp[intOf];omega
    ·unfold oL7
     go_simp
     refine hK.out _ _ KB (fun hHeld=>?_)
     clear hK K
     try simp only[oL7,Act.put,zA,zB,zC]
     refine wpAnyH_ready (rs:=[1]) (by kernel_rfl) (by simp) ?_
     refine AllReadyH.cons (o:=oL1) rfl (fun K hK=>?_) AllReadyH.nil
     unfold oL1
     go_simp
     refine hK.out _ _ KB (fun hHeld=>?_)
     clear hK K
     try simp only[oL1,Act.put,zA,zB,zC]
     refine wpAnyH_ready (rs:=[8]) (by kernel_rfl) (by simp) ?_
     refine AllReadyH.cons (o:=oL8) rfl (fun K hK=>?_) AllReadyH.nil
     refine step_app (wr.drew.alloc (.cells #[.int .i64 z0,.string z1,.string z2] 120)) (by rfl) _ _ 50 120 (by rfl) (.agg #[.int .i64 0,.string ByteArray.empty,.string ByteArray.empty]) 3 40 Tryz.underlying50 HelpF14.info2 rfl (by decide) (by decide) W.heap.size (.slice a m c) m (flatF (lessN x.ps nm k)) wr.drew.heap.size [.int .i64 z0,.string z1,.string z2] (by rfl) (by rfl) (row_step (W:=wr.drew) (zu OW) (one_more wr.drew (.cells #[.int .i64 z0,.string z1,.string z2] 120))) rfl (litm wr.drew _ _ _ (by rfl)) (by simp[Value.oneCell']) (by omega) (Nat.le_trans (show W.heap.size≤wr.drew.heap.size from gs) (by simp)) ?_
     intro g9 c9 u9 o9 gr9
     have BL:∀j,(Value.slice a m c).ownBlock=some j→W.heap.size≤j:=fun j hj=>(World.ownsRow.lt (zu OW) j hj).1
     have GR9:=zh (grow_app (zu GR) gr9 BL)
     have NG:some (w.heap.size+1+1)≠(Value.slice a m c).ownBlock:=fun e=>by have:=BL _ e.symm;omega
     have BX9:=zh (((show Bc wr.drew w.heap.size (w.heap.size+1+1) (.int .i64 x.room) (.slice a m c) from zu BX).below (one_more wr.drew (.cells #[.int .i64 z0,.string z1,.string z2] 120)) (show w.heap.size+1+1<wr.heap.size from by omega)).kept gr9 NG)
     have O9:=zh o9
     have fr9:u9.frozen? ⟨w.heap.size+1+1,1,none⟩=false:=(zu BX9).free 1
     have bc9:=(zu BX9).c1
     have g9l:=(World.ownsRow.lt o9 g9 rfl).1
     have gs9:=(zu GR9).size
     have KC:u9.cell? ⟨w.heap.size,1,none⟩=some (.slice (some ⟨g,0,none⟩) x.ps.length x.c)∧u9.cell? ⟨g,k*3,none⟩=some (.int .i64 z0)∧u9.cell? ⟨g,k*3+1,none⟩=some (.string z1)∧u9.cell? ⟨g,k*3+2,none⟩=some (.string z2):=⟨gr9.cell KB.1 (fun e=>by have:=BL _ e.symm;simp only at this;omega),gr9.cell KB.2.1 (fun e=>by have:=BL _ e.symm;simp only at this;omega),gr9.cell KB.2.2.1 (fun e=>by have:=BL _ e.symm;simp only at this;omega),gr9.cell KB.2.2.2 (fun e=>by have:=BL _ e.symm;simp only at this;omega)⟩
     have SB:=bc_set1 (zu BX9) (.slice (some ⟨g9,0,none⟩) (m+1) c9)
     have SB2:=zh SB
     have KD:(u9.setCell ⟨w.heap.size+1+1,1,none⟩ (.slice (some ⟨g9,0,none⟩) (m+1) c9)).cell? ⟨w.heap.size,1,none⟩=some (.slice (some ⟨g,0,none⟩) x.ps.length x.c)∧(u9.setCell ⟨w.heap.size+1+1,1,none⟩ (.slice (some ⟨g9,0,none⟩) (m+1) c9)).cell? ⟨g,k*3,none⟩=some (.int .i64 z0)∧(u9.setCell ⟨w.heap.size+1+1,1,none⟩ (.slice (some ⟨g9,0,none⟩) (m+1) c9)).cell? ⟨g,k*3+1,none⟩=some (.string z1)∧(u9.setCell ⟨w.heap.size+1+1,1,none⟩ (.slice (some ⟨g9,0,none⟩) (m+1) c9)).cell? ⟨g,k*3+2,none⟩=some (.string z2):=⟨(kcell SB.2 (1) (show w.heap.size<u9.heap.size from by omega) (show w.heap.size≠w.heap.size+1+1 from by omega)).trans KC.1,(kcell SB.2 (k*3) (show g<u9.heap.size from by omega) gn).trans KC.2.1,(kcell SB.2 (k*3+1) (show g<u9.heap.size from by omega) gn).trans KC.2.2.1,(kcell SB.2 (k*3+2) (show g<u9.heap.size from by omega) gn).trans KC.2.2.2⟩
     clear o9 SB
     refine hK.out _ _ KC (fun hHeld=>?_)
     clear hK K
     try simp only[oL8,Act.put,zA,zB,zC]
     refine tk 9 oL9 (.pointer (some ⟨w.heap.size+1+1,1,none⟩)) rfl (by kernel_rfl) (fun _ _ _ h=>h) (by rfl) (fun w hSw=>?_) hHeld ?_
     ·(try dsimp only at hSw)
      unfold oL9
      go_simp
     try simp only[oL9,Act.put,zA,zB,zC]
     refine wpAnyH_ready (rs:=[10]) (by kernel_rfl) (by simp) ?_
     refine AllReadyH.cons (o:=oL10) rfl (fun K hK=>?_) AllReadyH.nil
     unfold oL10
     go_simp
     refine hK.out _ _ KD (fun hHeld=>?_)
     clear hK K
     try simp only[oL10,Act.put,zA,zB,zC]
     refine wpAnyH_done (by kernel_rfl) ?_ _
     clear K0 KB KC KD gr9 bc bcD bcA bc9 fr9
     have GRS:=zh (grow_grow (zu GR9) (zu SB2).2)
     have BXS:=zh (zu SB2).1
     have OWS:=zh (row_kept (zu O9) (zu SB2).2 (by omega))
     clear SB2
     go_wp2
     go_roundw
     case rel=>exact⟨k+1,m+1,c9,some ⟨g9,0,none⟩,by go_num,by omega,by omega,GRS,BXS,zh (by have h:=zu OWS;rw[zu TK];rw[flat_1];exact h)⟩
     case measure=>simp[intOf];omega
  ·have e:k=x.ps.length:=by omega
   subst e
   have B0:=(zu BX).c0
   have B1:=(zu BX).c1
   have Rk:=zh ((zu HRB).kept (zu GR) (by simp))
   have f0:=(zu Rk).free 0
   have f1:=(zu Rk).free 1
   have r0:=(zu Rk).c0
   have r1:=(zu Rk).c1
   have lm:(lessN x.ps nm x.ps.length).length=m:=by
    have:=(zu OW).1
    rw[flatF_len] at this
    omega
   have LM:=zh lm
   have OR:=zh (row_base (zu OW) (show w.heap.size≤W.heap.size from by omega))
   have LB:=zh (show ∀j,(Value.slice a m c).ownBlock=some j→w.heap.size+3≤j from fun j hj=>by have:=(World.ownsRow.lt (zu OW) j hj).1;omega)
   have s0:=(zu Rk).set0 (.int .i64 x.room)
   have s1:=bc_set1 s0.1 (.slice a m c)
   have ST:=zh (grow_grow s0.2 s1.2)
   have BB:=zh ((zu HWD).b)
   clear lm s0 s1
   go_wp2
   refine bodyPost_ret (v:= .agg #[.int .i64 x.room,.slice a m c]) (by simp[results,Tryz.results37,go_sem,r0,r1]) rfl ⟨⟨x.room,a,c,lessN x.ps nm x.ps.length⟩,rfl,rfl,by simp[zu LM],?_,?_⟩
   ·unfold OwD
    simp only[zu LM]
    exact World.ownsRow.kept (zu OR) (zu ST) (by
     cases hb:(Value.slice a m c).ownBlock with
     |none=>exact .inl rfl
     |some g=>exact .inr (fun e=>by have:=(zu LB) g hb;injection e with e;omega))
   ·have k:=grow_low (zu BB) (zu GR) (by omega)
    exact grow_low k (zu ST) (by omega)
end SLess14
namespace SCopy14
open Fil14 OpensF14 DiskH14 DkH14 SDk14 SOk14 SRd14 App14 SLess14
open DkH14 (row_step)
theorem step_many(u:World){ops:Array Oper}{o:Oper}{a:Act}{K:Act→World→Prop}{Q:Exit→Act→World→Prop}{E:Prop}(hgd:o.guard=none)(s x:Operand)
  (ho:o.op= .call {callee:= .builtin .append,args:= #[s,x],argTypes:= #[50,50]})(base g n cap:Nat)(ps qs:List TF)(xa:Option Addr)(xc:Nat)(hs:a.eval s= .slice (some ⟨g,0,none⟩) n cap)(hx:a.eval x= .slice xa qs.length xc)(hown:OwnF 120 u base g n cap ps)(hq:qs.length=0∨∃vb,xa=some ⟨vb,0,none⟩∧AtF u vb qs)(hn:n≤1048576)(hm:qs.length≤1048576)(hb:base≤u.heap.size)
  (h:∀g' c' w',OwnF 120 w' base g' (n+qs.length) c' (ps++qs)→u.grownBy w' (some g)→(g'=g∨g'=u.heap.size)→K (a.put o.dst (.slice (some ⟨g',0,none⟩) (n+qs.length) c')) w'):if Region.wanted o (yielded ops a.tmps)=true then Oper.wp Tryz.prog o a u K Q else E:=by
 obtain⟨i0,hi,hz0,hz1,hz2⟩:=info_parts HelpF14.info2
 have hw:Region.wanted o (yielded ops a.tmps)=true:=by simp[Region.wanted,hgd]
 rw[if_pos hw]
 rcases hq with hq|⟨vb,rfl,hq⟩
 ·have e:qs=[]:=List.length_eq_zero_iff.1 hq
  subst e
  obtain⟨hle,hcap⟩:n≤cap∧True:=by
   rcases hown.2 with⟨h1,_⟩|⟨g',c,cur,h1,h2,h3,h4,_⟩
   ·simp at h1
   ·obtain⟨_,e2⟩:g=g'∧cap=c:=by simpa using h1
    exact⟨by omega,trivial⟩
  have hr:(Builtin.append_ #[50,50] o.type #[.slice (some ⟨g,0,none⟩) n cap,.slice xa 0 xc]).run Tryz.prog u= .ok (.slice (some ⟨g,0,none⟩) n cap) u:=by
   cases xa<;>simp[Builtin.append_,run_underlying Tryz.underlying50,sizeOf,typeInfo,hi,hle,storeCells,go_sem]
  unfold Oper.wp execOp
  simp only[List.length_nil] at hx
  simp only[ho,resolve,invoke,builtin,Sem.run_bind,Sem.run_pure,Result.andThen_ok,List.map_toArray,List.map_cons,List.map_nil,hs,hx,hr]
  have:=h g cap u (by simpa using hown) (World.grownBy.refl _ _) (.inl rfl)
  simp only[List.length_nil,Nat.add_zero] at this
  exact this
 ·obtain⟨v',w',hr,own',gr',nil',loc'⟩:=run_append_own_at (P:=Tryz.prog) u base 50 o.type 120 i0 (.agg #[.int .i64 0,.string ByteArray.empty,.string ByteArray.empty]) 3 40 Tryz.underlying50 hi hz0 hz1 hz2 rfl (by decide) (.slice (some ⟨g,0,none⟩) n cap) n (flatF ps) hown ⟨vb,0,none⟩ qs.length xc (flatF qs) (flatF_len qs) hq.cells (fun u hu=>flatF_one u qs hu) (by unfold maxLen;omega) (by omega) hb
  unfold Oper.wp execOp
  simp only[ho,resolve,invoke,builtin,Sem.run_bind,Sem.run_pure,Result.andThen_ok,List.map_toArray,List.map_cons,List.map_nil,hs,hx,hr]
  rw[←flatF_append] at own'
  rcases own'.2 with⟨e1,_⟩|⟨g',c',cur,rfl,_⟩
  ·rw[e1] at nil';simp at nil'
  ·exact h g' c' w' own' gr' (loc'.elim (fun q=> .inl (Option.some.inj (show some g'=some g from q))) (fun q=> .inr (Option.some.inj (show some g'=some u.heap.size from q))))
abbrev oC0:Oper:={dst:=some 3,op:=Go.Op.fieldAddr 52 (Go.Operand.tmp 1) 0,type:=0,pos:= "l14_disk.go:64",after:= #[],guard:=none}
abbrev oC1:Oper:={dst:=some 4,op:=Go.Op.load 3 (Go.Operand.tmp 3),type:=3,pos:= "l14_disk.go:64",after:= #[{on:=0,ground:=Go.Ground.data}],guard:=none}
abbrev oC2:Oper:={dst:=some 5,op:=Go.Op.buildSlice 50 0 #[],type:=50,pos:= "l14_disk.go:64",after:= #[],guard:=none}
abbrev oC3:Oper:={dst:=some 6,op:=Go.Op.fieldAddr 52 (Go.Operand.tmp 1) 1,type:=0,pos:= "l14_disk.go:64",after:= #[],guard:=none}
abbrev oC4:Oper:={dst:=some 7,op:=Go.Op.load 50 (Go.Operand.tmp 6),type:=50,pos:= "l14_disk.go:64",after:= #[{on:=3,ground:=Go.Ground.data}],guard:=none}
abbrev oC5:Oper:={dst:=some 8,op:=Go.Op.call {callee:=Go.Callee.builtin Go.Builtin.append,args:= #[Go.Operand.tmp 5,Go.Operand.tmp 7],argTypes:= #[50,50]},type:=50,pos:= "l14_disk.go:64",after:= #[{on:=2,ground:=Go.Ground.data},{on:=4,ground:=Go.Ground.data}],guard:=none}
abbrev oC6:Oper:={dst:=some 9,op:=Go.Op.build 52 #[(0,Go.Operand.tmp 4),(1,Go.Operand.tmp 8)],type:=52,pos:= "l14_disk.go:64",after:= #[{on:=1,ground:=Go.Ground.data},{on:=5,ground:=Go.Ground.data}],guard:=none}
abbrev oC7:Oper:={dst:=none,op:=Go.Op.store 52 (Go.Operand.tmp 2) (Go.Operand.tmp 9),type:=0,pos:= "l14_disk.go:64",after:= #[{on:=6,ground:=Go.Ground.data},{on:=5,ground:=Go.Ground.chain},{on:=0,ground:=Go.Ground.phase},{on:=1,ground:=Go.Ground.phase},{on:=2,ground:=Go.Ground.phase},{on:=3,ground:=Go.Ground.phase},{on:=4,ground:=Go.Ground.phase},{on:=5,ground:=Go.Ground.phase},{on:=6,ground:=Go.Ground.phase}],guard:=none}
theorem sCopy(w:World)(x:Dx)(hr:RdD w x):
  Calls Tryz.prog 39 #[.agg #[.int .i64 x.room,.slice x.a x.ps.length x.c]] w fun e w'=>∃y:Dx,y.room=x.room∧y.ps=x.ps∧e= .returned (.agg #[.int .i64 y.room,.slice y.a y.ps.length y.c])∧OwD w' w.heap.size y∧Below w.heap.size w w':=by
 have F:∀W1,W1=w.alloc (.cells #[.int .i64 x.room,.slice x.a x.ps.length x.c] 52)→∀W2,W2=W1.alloc (.cells #[.int .i64 0,.slice none 0 0] 52)→
   Wd w W2 x∧Bc W2 w.heap.size (w.heap.size+1) (.int .i64 0) (.slice none 0 0)∧W2.heap.size=w.heap.size+2:=by
  intro W1 h1 W2 h2
  have s1:W1.heap.size=w.heap.size+1:=by rw[h1];simp
  have s2:W2.heap.size=w.heap.size+2:=by rw[h2];simp[s1]
  have d1:Wd w W1 x:=by rw[h1];exact Wd.made hr _
  have b2:Below W1.heap.size W1 W2:=by rw[h2];exact one_more _ _
  have R1:Bc W2 w.heap.size (w.heap.size+1) (.int .i64 0) (.slice none 0 0):=by rw[h2];exact Bc.made _ _ (by omega) s1.symm
  exact⟨d1.step b2,R1,s2⟩
 have G0:=zh (F _ rfl _ rfl)
 have h20:=hr.n
 clear F hr
 go_enter Tryz.func39,Tryz.ntmps39
 go_wp2_with fail
 generalize (w.alloc (.cells #[.int .i64 x.room,.slice x.a x.ps.length x.c] 52)).alloc (.cells #[.int .i64 0,.slice none 0 0] 52)=W at *
 obtain⟨WD,RB,s3⟩:=zu G0
 have K0:=And.intro WD.c0 WD.c1
 have bL:=one_more W.drew (.cells #[] 120)
 have WL:=WD.drew.step bL
 have KB:=And.intro WL.c0 WL.c1
 have RQ:=zh (show x.ps.length=0∨∃vb,x.a=some ⟨vb,0,none⟩∧AtF (W.drew.alloc (.cells #[] 120)) vb x.ps from by
  by_cases q:x.ps.length=0
  ·exact .inl q
  ·obtain⟨g,e⟩:=WL.r.e q
   exact .inr ⟨g,e,(WL.r.r g e).2⟩)
 have LF:=zh (show OwnF 120 (W.drew.alloc (.cells #[] 120)) w.heap.size (w.heap.size+2) 0 0 [] from by
  have h:=litF0 120 W.drew w.heap.size (show w.heap.size≤W.heap.size from by omega)
  rw[show W.drew.heap.size=w.heap.size+2 from s3] at h
  exact h)
 have HWD:=zh WD
 have HRB:=zh RB
 clear G0 WD RB bL WL
 refine wp_region_held_drew (S:=(fun w'=>w'.cell? ⟨w.heap.size,0,none⟩=some (.int .i64 x.room)∧w'.cell? ⟨w.heap.size,1,none⟩=some (.slice x.a x.ps.length x.c))) (by kernel_rfl) K0 (fun hHeld=>?_)
 refine tk 0 oC0 (.pointer (some ⟨w.heap.size,0,none⟩)) rfl (by kernel_rfl) (fun _ _ _ h=>h) (by rfl) (fun w hSw=>?_) hHeld ?_
 ·(try dsimp only at hSw)
  unfold oC0
  go_simp
 try simp only[oC0,Act.put,zA,zB,zC]
 refine tk 1 oC1 (.int .i64 x.room) rfl (by kernel_rfl) (fun _ _ _ h=>h) (by rfl) (fun w hSw=>?_) hHeld ?_
 ·(try dsimp only at hSw)
  unfold oC1
  go_simp
 try simp only[oC1,Act.put,zA,zB,zC]
 refine tk 3 oC3 (.pointer (some ⟨w.heap.size,1,none⟩)) rfl (by kernel_rfl) (fun _ _ _ h=>h) (by rfl) (fun w hSw=>?_) hHeld ?_
 ·(try dsimp only at hSw)
  unfold oC3
  go_simp
 try simp only[oC3,Act.put,zA,zB,zC]
 refine tk 4 oC4 (.slice x.a x.ps.length x.c) rfl (by kernel_rfl) (fun _ _ _ h=>h) (by rfl) (fun w hSw=>?_) hHeld ?_
 ·(try dsimp only at hSw)
  unfold oC4
  go_simp
 try simp only[oC4,Act.put,zA,zB,zC]
 refine wpAnyH_ready (rs:=[2]) (by kernel_rfl) (by simp) ?_
 refine AllReadyH.cons (o:=oC2) rfl (fun K hK=>?_) AllReadyH.nil
 unfold oC2
 go_simp
 refine hK.out _ _ KB (fun hHeld=>?_)
 clear hK K
 try simp only[oC2,Act.put,zA,zB,zC]
 refine wpAnyH_ready (rs:=[5]) (by kernel_rfl) (by simp) ?_
 refine AllReadyH.cons (o:=oC5) rfl (fun K hK=>?_) AllReadyH.nil
 refine step_many ((W.drew).alloc (.cells #[] 120)) (by rfl) _ _ (by rfl) w.heap.size (w.heap.size+2) 0 0 [] x.ps x.a x.c (by rfl) (by rfl) (zu LF) (zu RQ) (by omega) h20 (Nat.le_trans (show w.heap.size≤W.drew.heap.size from by show w.heap.size≤W.heap.size;omega) (by simp)) ?_
 intro g9 c9 u9 o9 gr9 LOC
 simp at LOC
 have O9:=zh o9
 have G9:=zh gr9
 have K9:u9.cell? ⟨w.heap.size,0,none⟩=some (.int .i64 x.room)∧u9.cell? ⟨w.heap.size,1,none⟩=some (.slice x.a x.ps.length x.c):=⟨gr9.cell KB.1 (by simp),gr9.cell KB.2 (by simp)⟩
 have R9:=zh ((((show Bc W.drew w.heap.size (w.heap.size+1) (.int .i64 0) (.slice none 0 0) from zu HRB).below (one_more W.drew (.cells #[] 120)) (show w.heap.size+1<W.heap.size from by omega))).kept gr9 (by simp))
 have f0:=(zu R9).free 0
 have f1:=(zu R9).free 1
 have r0:=(zu R9).c0
 have r1:=(zu R9).c1
 have NB:=zh (show g9≠w.heap.size+1 from fun e=>by
  have h:=World.ownsRow.lt o9 g9 rfl
  rcases LOC with q|q<;>omega)
 have s0:=(zu R9).set0 (.int .i64 x.room)
 have s1:=bc_set1 s0.1 (.slice (some ⟨g9,0,none⟩) x.ps.length c9)
 have ST:=zh (grow_grow s0.2 s1.2)
 have gs9:=(zu G9).size
 simp at gs9
 have KE:((u9.setCell ⟨w.heap.size+1,0,none⟩ (.int .i64 x.room)).setCell ⟨w.heap.size+1,1,none⟩ (.slice (some ⟨g9,0,none⟩) x.ps.length c9)).cell? ⟨w.heap.size,0,none⟩=some (.int .i64 x.room)∧((u9.setCell ⟨w.heap.size+1,0,none⟩ (.int .i64 x.room)).setCell ⟨w.heap.size+1,1,none⟩ (.slice (some ⟨g9,0,none⟩) x.ps.length c9)).cell? ⟨w.heap.size,1,none⟩=some (.slice x.a x.ps.length x.c):=⟨(kcell (zu ST) 0 (show w.heap.size<u9.heap.size from by omega) (by omega)).trans K9.1,(kcell (zu ST) 1 (show w.heap.size<u9.heap.size from by omega) (by omega)).trans K9.2⟩
 clear o9 gr9 s0 s1
 refine hK.out _ _ K9 (fun hHeld=>?_)
 clear hK K
 try simp only[oC5,Act.put,zA,zB,zC]
 refine tk 6 oC6 (.agg #[.int .i64 x.room,.slice (some ⟨g9,0,none⟩) (0+x.ps.length) c9]) rfl (by kernel_rfl) (fun _ _ _ h=>h) (by rfl) (fun w hSw=>?_) hHeld ?_
 ·(try dsimp only at hSw)
  unfold oC6
  go_simp
 try simp only[oC6,Act.put,zA,zB,zC]
 refine wpAnyH_ready (rs:=[7]) (by kernel_rfl) (by simp) ?_
 refine AllReadyH.cons (o:=oC7) rfl (fun K hK=>?_) AllReadyH.nil
 unfold oC7
 go_simp
 refine hK.out _ _ KE (fun hHeld=>?_)
 clear hK K
 try simp only[oC7,Act.put,zA,zB,zC]
 refine wpAnyH_done (by kernel_rfl) ?_ _
 clear KE K9 KB K0
 go_wp2
 refine bodyPost_ret (v:= .agg #[.int .i64 x.room,.slice (some ⟨g9,0,none⟩) x.ps.length c9]) (by simp[results,Tryz.results39,go_sem,r0,r1]) rfl ⟨⟨x.room,some ⟨g9,0,none⟩,c9,x.ps⟩,rfl,rfl,rfl,?_,?_⟩
 ·unfold OwD
  exact World.ownsRow.kept (by have h:=zu O9;simp only[List.nil_append,Nat.zero_add] at h;exact h) (zu ST) (.inr (fun e=>(zu NB) (Option.some.inj (show some g9=some (w.heap.size+1) from e))))
 ·exact grow_low (grow_low ((zu HWD).b.drew.alloc (show w.heap.size≤W.heap.size from by omega) _) (zu G9) ⟨by omega,by simp;omega⟩) (zu ST) ⟨by omega,by have:=(zu G9).size;simp at this;omega⟩
end SCopy14
namespace SRef14
open Fil14 OpensF14 DiskH14 DkH14 SDk14 SOk14 SRd14 App14 SLess14 SCopy14
def refD(code room:Int)(ps:List TF):Int×List TF:=if code=1 then(0,[]) else(room,ps)
theorem sRefused(w:World)(x:Dx)(code:Int)(hr:RdD w x):
  Calls Tryz.prog 79 #[.agg #[.int .i64 x.room,.slice x.a x.ps.length x.c],.int .i64 code] w fun e w'=>∃y:Dx,(y.room,y.ps)=refD code x.room x.ps∧e= .returned (.agg #[.int .i64 y.room,.slice y.a y.ps.length y.c])∧OwD w' w.heap.size y∧Below w.heap.size w w':=by
 have F:∀W1,W1=w.alloc (.cells #[.int .i64 x.room,.slice x.a x.ps.length x.c] 52)→∀W2,W2=W1.alloc (.cells #[.int .i64 0,.slice none 0 0] 52)→
   Wd w W2 x∧Bc W2 w.heap.size (w.heap.size+1) (.int .i64 0) (.slice none 0 0)∧W2.heap.size=w.heap.size+2:=by
  intro W1 h1 W2 h2
  have s1:W1.heap.size=w.heap.size+1:=by rw[h1];simp
  have s2:W2.heap.size=w.heap.size+2:=by rw[h2];simp[s1]
  have d1:Wd w W1 x:=by rw[h1];exact Wd.made hr _
  have b2:Below W1.heap.size W1 W2:=by rw[h2];exact one_more _ _
  have R1:Bc W2 w.heap.size (w.heap.size+1) (.int .i64 0) (.slice none 0 0):=by rw[h2];exact Bc.made _ _ (by omega) s1.symm
  exact⟨d1.step b2,R1,s2⟩
 have G0:=zh (F _ rfl _ rfl)
 clear F hr
 by_cases q:code=1
 ·have E:=zh (show refD code x.room x.ps=(0,[]) from if_pos q)
  generalize refD code x.room x.ps=rr at *
  subst q
  go_enter Tryz.func79,Tryz.ntmps79
  go_wp2
  obtain⟨WD,RB,s3⟩:=zu G0
  have r0:=RB.c0
  have r1:=RB.c1
  refine bodyPost_ret (v:= .agg #[.int .i64 0,.slice none 0 0]) (by simp[results,Tryz.results79,go_sem]) rfl ⟨⟨0,none,0,[]⟩,(zu E).symm,rfl,⟨rfl,.inl ⟨rfl,rfl⟩⟩,WD.b⟩
 ·have E:=zh (show refD code x.room x.ps=(x.room,x.ps) from if_neg q)
  generalize refD code x.room x.ps=rr at *
  go_enter Tryz.func79,Tryz.ntmps79
  go_wp2_with fail
  generalize (w.alloc (.cells #[.int .i64 x.room,.slice x.a x.ps.length x.c] 52)).alloc (.cells #[.int .i64 0,.slice none 0 0] 52)=W at *
  obtain⟨WD,RB,s3⟩:=zu G0
  refine(sCopy W x WD.r).mono ?_
  rintro e u ⟨y,yr,yp,rfl,oy,by1⟩
  have HE:=zh (show(y.room,y.ps)=rr by rw[zu E,yr,yp])
  have R9:=RB.below by1 (by omega)
  have f0:=R9.free 0
  have f1:=R9.free 1
  have r0:=R9.c0
  have r1:=R9.c1
  have s0:=R9.set0 (.int .i64 y.room)
  have s1:=bc_set1 s0.1 (.slice y.a y.ps.length y.c)
  have ST:=zh (grow_grow s0.2 s1.2)
  have BB:=zh (WD.b.trans (by1.mono WD.b.size))
  have us:=by1.size
  have O1:=zh oy
  clear WD RB R9 s0 s1 by1 G0 oy yr yp
  go_wp2
  refine bodyPost_ret (v:= .agg #[.int .i64 y.room,.slice y.a y.ps.length y.c]) (by simp[results,Tryz.results79,go_sem,r0,r1]) rfl ⟨y,zu HE,rfl,?_,?_⟩
  ·exact row_base (row_kept (zu O1) (zu ST) (by omega)) (by omega)
  ·exact grow_low (zu BB) (zu ST) (by omega)
end SRef14
namespace SCom14
open Fil14 OpensF14 DiskH14 DkH14 SDk14 SOk14 SRd14 App14 SLess14 SCopy14 SRef14
def ToldD(r:(Int×List TF)×Int)(w:World)(e:Ending)(w':World):Prop:=∃y:Dx,(y.room,y.ps)=r.1∧e= .returned (.tuple #[.agg #[.int .i64 y.room,.slice y.a y.ps.length y.c],.int .i64 r.2])∧OwD w' w.heap.size y∧Below w.heap.size w w'
theorem ixF{a:Option Addr}{g n k:Nat}(c:Nat)(e:a=some ⟨g,0,none⟩)(h:k<n)(w:World):(Instr.indexAt 50 (.slice a n c) (.int .i64 k)).run Tryz.prog w= .ok (.pointer (some ⟨g,k*3,none⟩)) w:=by
 subst e
 have:(k:Int)<n:=by omega
 simp[go_sem,this]
theorem at_in{room:Int}{ps:List TF}{nm:Int}(h:(atD room ps nm).2=0):OkD room ps∧okN nm=true∧∃k:Nat,(atD room ps nm).1=k∧k<ps.length∧(elF ps k).1=nm:=by
 unfold atD at h⊢
 by_cases q:OkD room ps∧okN nm=true
 ·rw[if_pos q] at h⊢
  by_cases n:findF ps nm<0
  ·simp[n] at h
  ·obtain⟨k,e,l,m⟩:=findF_in (ps:=ps) (nm:=nm) (by omega)
   exact⟨q.1,q.2,k,e,l,m⟩
 ·rw[if_neg q] at h;simp at h
theorem begunD{w:World}{x:Dx}(hr:RdD w x):Wd w ((w.alloc (.cells #[.int .i64 x.room,.slice x.a x.ps.length x.c] 52)).alloc (.cells #[.int .i64 0,.slice none 0 0] 52)) x∧Bc ((w.alloc (.cells #[.int .i64 x.room,.slice x.a x.ps.length x.c] 52)).alloc (.cells #[.int .i64 0,.slice none 0 0] 52)) w.heap.size (w.heap.size+1) (.int .i64 0) (.slice none 0 0):=
 ⟨(Wd.made hr _).step (one_more _ _),Bc.made _ _ (by simp) (by simp)⟩
theorem endedD{w u:World}{base0:Nat}{y:Dx}(b:Below w.heap.size w u)(rb:Bc u w.heap.size (w.heap.size+1) (.int .i64 0) (.slice none 0 0))(o:OwD u base0 y)(hb:w.heap.size+1<base0):OwD ((u.setCell ⟨w.heap.size+1,0,none⟩ (.int .i64 y.room)).setCell ⟨w.heap.size+1,1,none⟩ (.slice y.a y.ps.length y.c)) w.heap.size y∧Below w.heap.size w ((u.setCell ⟨w.heap.size+1,0,none⟩ (.int .i64 y.room)).setCell ⟨w.heap.size+1,1,none⟩ (.slice y.a y.ps.length y.c)):=by
 have s0:=rb.set0 (.int .i64 y.room)
 have s1:=bc_set1 s0.1 (.slice y.a y.ps.length y.c)
 have st:=grow_grow s0.2 s1.2
 exact⟨row_base (row_kept o st hb) (by omega),grow_low b st ⟨by omega,b.size⟩⟩
end SCom14
namespace SSg16
open Fil14 OpensF14 DiskH14 DkH14 SDk14 SOk14 SRd14 SegP15
theorem sSegOk(w:World)(n:Int)(b:Bool)(h:okS n=b):Calls Tryz.prog 23 #[.int .i64 n] w fun e w'=>e= .returned (.bool b)∧w'=w:=by
 have S:=zh (fun u=>sInB u n 0 19 (okS n) rfl)
 rw[h] at S
 go_enter Tryz.func23,Tryz.ntmps23
 go_wp2_with fail
 refine(zu S _).mono ?_
 rintro e u ⟨rfl,rfl⟩
 go_wp2
 go_ret
 exact⟨rfl,rfl⟩
end SSg16
namespace Opens
open Pairs
theorem open_pairs{H:Type}{enc:TypeId×Value→H}{P:Program}{w:World}{base:Nat}{spare:Nat→Bool}{held:Bool}{t e i:TypeId}{n0 n1:String}{b0 b1:Bool}{t0 t1 p0 p1:String}{o0 o1:Nat}{fuel:Nat}{a:Option Addr}{len cap:Nat}{x:DataW H×List MemPlace}
  (ht:P.underlying t=some (.slice e))(he:P.underlying e=some (.struct #[{name:=n0,type:=i,offset:=0,embedded:=b0,tag:=t0,pkgPath:=p0,byteOffset:=o0},{name:=n1,type:=i,offset:=1,embedded:=b1,tag:=t1,pkgPath:=p1,byteOffset:=o1}]))
  (hc:(P.cellsOf e==2&&P.cellsOf i==1)=true)(hi:P.underlying i=some (.int .i64))
  (h:DataW.trod enc P w base spare held fuel t (Value.slice a len cap).cells.toList=some x):∃ps:List (Int×Int),ps.length=len∧len≤9223372036854775807∧Reads w a ps:=by
 have hc':P.cellsOf e=2∧P.cellsOf i=1:=by simpa using hc
 rcases Deep.open_slice_pairs ht he hc'.1 rfl rfl hc'.2 hc'.2 h with⟨hcs,_⟩|⟨b,l,c,m,n,V0,V1,D0,D1,P0,P1,hcs,_,hlc,hm,hmm,_,hx⟩
 ·simp[Value.cells] at hcs
  obtain⟨rfl,rfl,rfl⟩:=hcs
  exact⟨[],rfl,by omega,.inl rfl⟩
 ·simp[Value.cells] at hcs
  obtain⟨rfl,rfl,rfl⟩:=hcs
  have hlm:len≤m:=by rw[hmm];split<;>omega
  refine⟨(List.range len).map fun i=>(intOf (V0 i),intOf (V1 i)),by simp,by unfold maxLen at hm;omega,?_⟩
  by_cases z:len=0
  ·exact .inl (by simp[z])
  ·have val:∀i,i<len→V0 i= .int .i64 (intOf (V0 i))∧V1 i= .int .i64 (intOf (V1 i)):=fun i hi'=>by
    obtain⟨_,_,q0,q1⟩:=hx i (by omega)
    obtain⟨x0,e0,_⟩:=DataW.trod_int hi q0
    obtain⟨x1,e1,_⟩:=DataW.trod_int hi q1
    simp at e0 e1
    rw[e0,e1]
    exact⟨rfl,rfl⟩
   obtain⟨blk,off,spot⟩:=b
   have c0:=(hx 0 (by omega)).1
   have hspot:spot=none:=by simpa[Addr.add] using World.cell?_spot c0
   subst hspot
   have c0':w.cell? ⟨blk,off,none⟩=some (V0 0):=by simpa[Addr.add] using c0
   refine .inr ⟨blk,off,rfl,World.block_lt_of_cell? w _ c0',fun i hi'=>?_⟩
   have hi'':i<len:=by simpa using hi'
   obtain⟨q0,q1,_⟩:=hx i (by omega)
   obtain⟨v0,v1⟩:=val i hi''
   rw[Addr.add_lit] at q0 q1
   have hg:((List.range len).map fun i=>(intOf (V0 i),intOf (V1 i))).getD i (0,0)=(intOf (V0 i),intOf (V1 i)):=by simp[List.getD,hi'']
   rw[hg]
   exact⟨by rw[q0];exact congrArg some v0,by rw[Nat.add_assoc,q1];exact congrArg some v1⟩
end Opens
namespace Opens3
open Bals Triples
theorem open_triples{H:Type}{enc:TypeId×Value→H}{P:Program}{w:World}{base:Nat}{spare:Nat→Bool}{held:Bool}{t e i:TypeId}{f0 f1 f2:Field}{fuel:Nat}{a:Option Addr}{len cap:Nat}{x:DataW H×List MemPlace}
  (ht:P.underlying t=some (.slice e))(he:P.underlying e=some (.struct #[f0,f1,f2]))
  (hc:(P.cellsOf e==3&&P.cellsOf i==1&&f0.type==i&&f1.type==i&&f2.type==i&&f0.offset==0&&f1.offset==1&&f2.offset==2)=true)(hi:P.underlying i=some (.int .i64))
  (h:DataW.trod enc P w base spare held fuel t (Value.slice a len cap).cells.toList=some x):∃ps:List T3,ps.length=len∧len≤9223372036854775807∧Reads3 w a ps:=by
 simp at hc
 obtain⟨⟨⟨⟨⟨⟨⟨ce,ci⟩,e0⟩,e1⟩,e2⟩,o0⟩,o1⟩,o2⟩:=hc
 rcases Deep.open_slice ht h with⟨hcs,_⟩|⟨b,l,c,m,n,D,Pl,hcs,_,hlc,hm,hmm,_,hx⟩
 ·simp[Value.cells] at hcs
  obtain⟨rfl,rfl,rfl⟩:=hcs
  exact⟨[],rfl,by omega,.inl rfl⟩
 ·simp[Value.cells] at hcs
  obtain⟨rfl,rfl,rfl⟩:=hcs
  have hlm:len≤m:=by rw[hmm];split<;>omega
  have each:∀j,j<len→∃p:T3,w.cell? (b.add (j*3))=some (.int .i64 p.1)∧w.cell? (b.add (j*3+1))=some (.int .i64 p.2.1)∧w.cell? (b.add (j*3+2))=some (.int .i64 p.2.2):=by
   intro j hj
   obtain⟨cs',h1,h2⟩:=hx j (by omega)
   rw[ce] at h1
   obtain⟨_,hlen,hcell⟩:=World.cells?_some h1
   obtain⟨y0,y1,y2,k,_,_,g0,g1,g2⟩:=Deep.trod_struct3 he h2
   match cs',hlen with
   |[v0,v1,v2],_=>
    rw[e0] at g0
    rw[e1] at g1
    rw[e2] at g2
    simp[o0,o1,o2,ci] at g0 g1 g2
    obtain⟨x0,q0,_⟩:=DataW.trod_int hi g0
    obtain⟨x1,q1,_⟩:=DataW.trod_int hi g1
    obtain⟨x2,q2,_⟩:=DataW.trod_int hi g2
    simp at q0 q1 q2
    subst q0 q1 q2
    have d0:=hcell 0 (by omega)
    have d1:=hcell 1 (by omega)
    have d2:=hcell 2 (by omega)
    rw[Deep.add_add] at d0 d1 d2
    exact⟨(x0,x1,x2),by simpa using d0,by simpa using d1,by simpa using d2⟩
  obtain⟨q,hq⟩:=Deep.choose_lt each
  refine⟨(List.range len).map q,by simp,by unfold maxLen at hm;omega,?_⟩
  by_cases z:len=0
  ·exact .inl (by simp[z])
  ·obtain⟨blk,off,spot⟩:=b
   have c0:=(hq 0 (by omega)).1
   have hspot:spot=none:=by simpa[Addr.add] using World.cell?_spot c0
   subst hspot
   have c0':w.cell? ⟨blk,off,none⟩=some (.int .i64 (q 0).1):=by simpa[Addr.add] using c0
   refine .inr ⟨blk,off,rfl,World.block_lt_of_cell? w _ c0',fun j hj=>?_⟩
   have hj':j<len:=by simpa using hj
   obtain⟨p0,p1,p2⟩:=hq j hj'
   rw[Addr.add_lit] at p0 p1 p2
   have hg:el3 ((List.range len).map q) j=q j:=by simp[List.getD,hj']
   rw[hg]
   exact⟨p0,by rw[Nat.add_assoc];exact p1,by rw[Nat.add_assoc];exact p2⟩
end Opens3
namespace Opens5
open Tup5
theorem cells_of{H:Type}{enc:TypeId×Value→H}{P:Program}{w:World}{base:Nat}{spare:Nat→Bool}{held:Bool}{e i:TypeId}{f0 f1 f2 f3 f4:Field}{fuel:Nat}{cs:List Value}{x:DataW H×List MemPlace}
  (he:P.underlying e=some (.struct #[f0,f1,f2,f3,f4]))(hc:(P.cellsOf e==5&&P.cellsOf i==1&&f0.type==i&&f1.type==i&&f2.type==i&&f3.type==i&&f4.type==i&&f0.offset==0&&f1.offset==1&&f2.offset==2&&f3.offset==3&&f4.offset==4)=true)(hi:P.underlying i=some (.int .i64))
  (h:DataW.trod enc P w base spare held fuel e cs=some x):∃p:T5,cs=[.int .i64 p.1,.int .i64 p.2.1,.int .i64 p.2.2.1,.int .i64 p.2.2.2.1,.int .i64 p.2.2.2.2]:=by
 simp at hc
 obtain⟨⟨⟨⟨⟨⟨⟨⟨⟨⟨⟨ce,ci⟩,e0⟩,e1⟩,e2⟩,e3⟩,e4⟩,o0⟩,o1⟩,o2⟩,o3⟩,o4⟩:=hc
 obtain⟨xs,k,_,_,hl,hlen,hf⟩:=DataW.trod_struct he h
 rw[ce] at hl
 match xs,hlen,cs,hl with
 |[y0,y1,y2,y3,y4],_,[v0,v1,v2,v3,v4],_=>
  have g0:=hf 0 f0 rfl
  have g1:=hf 1 f1 rfl
  have g2:=hf 2 f2 rfl
  have g3:=hf 3 f3 rfl
  have g4:=hf 4 f4 rfl
  rw[e0] at g0
  simp[o0,ci] at g0
  obtain⟨x0,q0,_⟩:=DataW.trod_int hi g0
  simp at q0
  rw[e1] at g1
  simp[o1,ci] at g1
  obtain⟨x1,q1,_⟩:=DataW.trod_int hi g1
  simp at q1
  rw[e2] at g2
  simp[o2,ci] at g2
  obtain⟨x2,q2,_⟩:=DataW.trod_int hi g2
  simp at q2
  rw[e3] at g3
  simp[o3,ci] at g3
  obtain⟨x3,q3,_⟩:=DataW.trod_int hi g3
  simp at q3
  rw[e4] at g4
  simp[o4,ci] at g4
  obtain⟨x4,q4,_⟩:=DataW.trod_int hi g4
  simp at q4
  subst q0 q1 q2 q3 q4
  exact⟨(x0,x1,x2,x3,x4),rfl⟩
theorem open_rows{H:Type}{enc:TypeId×Value→H}{P:Program}{w:World}{base:Nat}{spare:Nat→Bool}{held:Bool}{t e i:TypeId}{f0 f1 f2 f3 f4:Field}{fuel:Nat}{a:Option Addr}{len cap:Nat}{x:DataW H×List MemPlace}
  (ht:P.underlying t=some (.slice e))(he:P.underlying e=some (.struct #[f0,f1,f2,f3,f4]))(hc:(P.cellsOf e==5&&P.cellsOf i==1&&f0.type==i&&f1.type==i&&f2.type==i&&f3.type==i&&f4.type==i&&f0.offset==0&&f1.offset==1&&f2.offset==2&&f3.offset==3&&f4.offset==4)=true)(hi:P.underlying i=some (.int .i64))
  (h:DataW.trod enc P w base spare held fuel t (Value.slice a len cap).cells.toList=some x):∃ps:List T5,ps.length=len∧len≤9223372036854775807∧Reads5 w a ps:=by
 have ce:P.cellsOf e=5:=by
  simp at hc
  exact hc.1.1.1.1.1.1.1.1.1.1.1
 rcases Deep.open_slice ht h with⟨hcs,_⟩|⟨b,l,c,m,n,D,Pl,hcs,_,hlc,hm,hmm,_,hx⟩
 ·simp[Value.cells] at hcs
  obtain⟨rfl,rfl,rfl⟩:=hcs
  exact⟨[],rfl,by omega,.inl rfl⟩
 ·simp[Value.cells] at hcs
  obtain⟨rfl,rfl,rfl⟩:=hcs
  have hlm:len≤m:=by rw[hmm];split<;>omega
  have each:∀j,j<len→∃p:T5,w.cell? (b.add (j*5))=some (.int .i64 p.1)∧w.cell? (b.add (j*5+1))=some (.int .i64 p.2.1)∧w.cell? (b.add (j*5+2))=some (.int .i64 p.2.2.1)∧w.cell? (b.add (j*5+3))=some (.int .i64 p.2.2.2.1)∧w.cell? (b.add (j*5+4))=some (.int .i64 p.2.2.2.2):=by
   intro j hj
   obtain⟨cs',h1,h2⟩:=hx j (by omega)
   rw[ce] at h1
   obtain⟨_,hlen,hcell⟩:=World.cells?_some h1
   obtain⟨p,rfl⟩:=cells_of he hc hi h2
   have d0:=hcell 0 (by omega)
   have d1:=hcell 1 (by omega)
   have d2:=hcell 2 (by omega)
   have d3:=hcell 3 (by omega)
   have d4:=hcell 4 (by omega)
   rw[Deep.add_add] at d0 d1 d2 d3 d4
   exact⟨p,by simpa using d0,by simpa using d1,by simpa using d2,by simpa using d3,by simpa using d4⟩
  obtain⟨q,hq⟩:=Deep.choose_lt each
  refine⟨(List.range len).map q,by simp,by unfold maxLen at hm;omega,?_⟩
  by_cases z:len=0
  ·exact .inl (by simp[z])
  ·obtain⟨blk,off,spot⟩:=b
   have c0:=(hq 0 (by omega)).1
   have hspot:spot=none:=by simpa[Addr.add] using World.cell?_spot c0
   subst hspot
   have c0':w.cell? ⟨blk,off,none⟩=some (.int .i64 (q 0).1):=by simpa[Addr.add] using c0
   refine .inr ⟨blk,off,rfl,World.block_lt_of_cell? w _ c0',fun j hj=>?_⟩
   have hj':j<len:=by simpa using hj
   obtain⟨p0,p1,p2,p3,p4⟩:=hq j hj'
   rw[Addr.add_lit] at p0 p1 p2 p3 p4
   have hg:el5 ((List.range len).map q) j=q j:=by simp[List.getD,hj']
   rw[hg]
   exact⟨p0,by rw[Nat.add_assoc];exact p1,by rw[Nat.add_assoc];exact p2,by rw[Nat.add_assoc];exact p3,by rw[Nat.add_assoc];exact p4⟩
end Opens5
namespace Opens8
open Tup8
theorem cells_of{H:Type}{enc:TypeId×Value→H}{P:Program}{w:World}{base:Nat}{spare:Nat→Bool}{held:Bool}{e i:TypeId}{f0 f1 f2 f3 f4 f5 f6 f7:Field}{fuel:Nat}{cs:List Value}{x:DataW H×List MemPlace}
  (he:P.underlying e=some (.struct #[f0,f1,f2,f3,f4,f5,f6,f7]))(hc:(P.cellsOf e==8&&P.cellsOf i==1&&f0.type==i&&f1.type==i&&f2.type==i&&f3.type==i&&f4.type==i&&f5.type==i&&f6.type==i&&f7.type==i&&f0.offset==0&&f1.offset==1&&f2.offset==2&&f3.offset==3&&f4.offset==4&&f5.offset==5&&f6.offset==6&&f7.offset==7)=true)(hi:P.underlying i=some (.int .i64))
  (h:DataW.trod enc P w base spare held fuel e cs=some x):∃p:T8,cs=[.int .i64 p.1,.int .i64 p.2.1,.int .i64 p.2.2.1,.int .i64 p.2.2.2.1,.int .i64 p.2.2.2.2.1,.int .i64 p.2.2.2.2.2.1,.int .i64 p.2.2.2.2.2.2.1,.int .i64 p.2.2.2.2.2.2.2]:=by
 simp at hc
 obtain⟨⟨⟨⟨⟨⟨⟨⟨⟨⟨⟨⟨⟨⟨⟨⟨⟨ce,ci⟩,e0⟩,e1⟩,e2⟩,e3⟩,e4⟩,e5⟩,e6⟩,e7⟩,o0⟩,o1⟩,o2⟩,o3⟩,o4⟩,o5⟩,o6⟩,o7⟩:=hc
 obtain⟨xs,k,_,_,hl,hlen,hf⟩:=DataW.trod_struct he h
 rw[ce] at hl
 match xs,hlen,cs,hl with
 |[y0,y1,y2,y3,y4,y5,y6,y7],_,[v0,v1,v2,v3,v4,v5,v6,v7],_=>
  have g0:=hf 0 f0 rfl
  have g1:=hf 1 f1 rfl
  have g2:=hf 2 f2 rfl
  have g3:=hf 3 f3 rfl
  have g4:=hf 4 f4 rfl
  have g5:=hf 5 f5 rfl
  have g6:=hf 6 f6 rfl
  have g7:=hf 7 f7 rfl
  rw[e0] at g0
  simp[o0,ci] at g0
  obtain⟨x0,q0,_⟩:=DataW.trod_int hi g0
  simp at q0
  rw[e1] at g1
  simp[o1,ci] at g1
  obtain⟨x1,q1,_⟩:=DataW.trod_int hi g1
  simp at q1
  rw[e2] at g2
  simp[o2,ci] at g2
  obtain⟨x2,q2,_⟩:=DataW.trod_int hi g2
  simp at q2
  rw[e3] at g3
  simp[o3,ci] at g3
  obtain⟨x3,q3,_⟩:=DataW.trod_int hi g3
  simp at q3
  rw[e4] at g4
  simp[o4,ci] at g4
  obtain⟨x4,q4,_⟩:=DataW.trod_int hi g4
  simp at q4
  rw[e5] at g5
  simp[o5,ci] at g5
  obtain⟨x5,q5,_⟩:=DataW.trod_int hi g5
  simp at q5
  rw[e6] at g6
  simp[o6,ci] at g6
  obtain⟨x6,q6,_⟩:=DataW.trod_int hi g6
  simp at q6
  rw[e7] at g7
  simp[o7,ci] at g7
  obtain⟨x7,q7,_⟩:=DataW.trod_int hi g7
  simp at q7
  subst q0 q1 q2 q3 q4 q5 q6 q7
  exact⟨(x0,x1,x2,x3,x4,x5,x6,x7),rfl⟩
theorem open_rows{H:Type}{enc:TypeId×Value→H}{P:Program}{w:World}{base:Nat}{spare:Nat→Bool}{held:Bool}{t e i:TypeId}{f0 f1 f2 f3 f4 f5 f6 f7:Field}{fuel:Nat}{a:Option Addr}{len cap:Nat}{x:DataW H×List MemPlace}
  (ht:P.underlying t=some (.slice e))(he:P.underlying e=some (.struct #[f0,f1,f2,f3,f4,f5,f6,f7]))(hc:(P.cellsOf e==8&&P.cellsOf i==1&&f0.type==i&&f1.type==i&&f2.type==i&&f3.type==i&&f4.type==i&&f5.type==i&&f6.type==i&&f7.type==i&&f0.offset==0&&f1.offset==1&&f2.offset==2&&f3.offset==3&&f4.offset==4&&f5.offset==5&&f6.offset==6&&f7.offset==7)=true)(hi:P.underlying i=some (.int .i64))
  (h:DataW.trod enc P w base spare held fuel t (Value.slice a len cap).cells.toList=some x):∃ps:List T8,ps.length=len∧len≤9223372036854775807∧Reads8 w a ps:=by
 have ce:P.cellsOf e=8:=by
  simp at hc
  exact hc.1.1.1.1.1.1.1.1.1.1.1.1.1.1.1.1.1
 rcases Deep.open_slice ht h with⟨hcs,_⟩|⟨b,l,c,m,n,D,Pl,hcs,_,hlc,hm,hmm,_,hx⟩
 ·simp[Value.cells] at hcs
  obtain⟨rfl,rfl,rfl⟩:=hcs
  exact⟨[],rfl,by omega,.inl rfl⟩
 ·simp[Value.cells] at hcs
  obtain⟨rfl,rfl,rfl⟩:=hcs
  have hlm:len≤m:=by rw[hmm];split<;>omega
  have each:∀j,j<len→∃p:T8,w.cell? (b.add (j*8))=some (.int .i64 p.1)∧w.cell? (b.add (j*8+1))=some (.int .i64 p.2.1)∧w.cell? (b.add (j*8+2))=some (.int .i64 p.2.2.1)∧w.cell? (b.add (j*8+3))=some (.int .i64 p.2.2.2.1)∧w.cell? (b.add (j*8+4))=some (.int .i64 p.2.2.2.2.1)∧w.cell? (b.add (j*8+5))=some (.int .i64 p.2.2.2.2.2.1)∧w.cell? (b.add (j*8+6))=some (.int .i64 p.2.2.2.2.2.2.1)∧w.cell? (b.add (j*8+7))=some (.int .i64 p.2.2.2.2.2.2.2):=by
   intro j hj
   obtain⟨cs',h1,h2⟩:=hx j (by omega)
   rw[ce] at h1
   obtain⟨_,hlen,hcell⟩:=World.cells?_some h1
   obtain⟨p,rfl⟩:=cells_of he hc hi h2
   have d0:=hcell 0 (by omega)
   have d1:=hcell 1 (by omega)
   have d2:=hcell 2 (by omega)
   have d3:=hcell 3 (by omega)
   have d4:=hcell 4 (by omega)
   have d5:=hcell 5 (by omega)
   have d6:=hcell 6 (by omega)
   have d7:=hcell 7 (by omega)
   rw[Deep.add_add] at d0 d1 d2 d3 d4 d5 d6 d7
   exact⟨p,by simpa using d0,by simpa using d1,by simpa using d2,by simpa using d3,by simpa using d4,by simpa using d5,by simpa using d6,by simpa using d7⟩
  obtain⟨q,hq⟩:=Deep.choose_lt each
  refine⟨(List.range len).map q,by simp,by unfold maxLen at hm;omega,?_⟩
  by_cases z:len=0
  ·exact .inl (by simp[z])
  ·obtain⟨blk,off,spot⟩:=b
   have c0:=(hq 0 (by omega)).1
   have hspot:spot=none:=by simpa[Addr.add] using World.cell?_spot c0
   subst hspot
   have c0':w.cell? ⟨blk,off,none⟩=some (.int .i64 (q 0).1):=by simpa[Addr.add] using c0
   refine .inr ⟨blk,off,rfl,World.block_lt_of_cell? w _ c0',fun j hj=>?_⟩
   have hj':j<len:=by simpa using hj
   obtain⟨p0,p1,p2,p3,p4,p5,p6,p7⟩:=hq j hj'
   rw[Addr.add_lit] at p0 p1 p2 p3 p4 p5 p6 p7
   have hg:el8 ((List.range len).map q) j=q j:=by simp[List.getD,hj']
   rw[hg]
   exact⟨p0,by rw[Nat.add_assoc];exact p1,by rw[Nat.add_assoc];exact p2,by rw[Nat.add_assoc];exact p3,by rw[Nat.add_assoc];exact p4,by rw[Nat.add_assoc];exact p5,by rw[Nat.add_assoc];exact p6,by rw[Nat.add_assoc];exact p7⟩
end Opens8
namespace OpensB
open BMem Bks BHelp BkEq
theorem slice_cell{H:Type}{enc:TypeId×Value→H}{P:Program}{w:World}{base:Nat}{spare:Nat→Bool}{held:Bool}{t e:TypeId}{fuel:Nat}{v:Value}{x:DataW H×List MemPlace}
  (ht:P.underlying t=some (.slice e))(h:DataW.trod enc P w base spare held fuel t [v]=some x):∃a len cap,v= .slice a len cap:=by
 rcases Deep.open_slice ht h with⟨hcs,_⟩|⟨b,l,c,m,n,D,Pl,hcs,_⟩
 ·simp at hcs
  exact⟨_,_,_,hcs⟩
 ·simp at hcs
  exact⟨_,_,_,hcs⟩
theorem struct_cells{H:Type}{enc:TypeId×Value→H}{P:Program}{w:World}{base:Nat}{spare:Nat→Bool}{held:Bool}{e:TypeId}{f0 f1 f2 f3 f4 f5:Field}{fuel:Nat}{cs:List Value}{x:DataW H×List MemPlace}
  (he:P.underlying e=some (.struct #[f0,f1,f2,f3,f4,f5]))(hc:(P.cellsOf e==6&&P.cellsOf f0.type==1&&P.cellsOf f1.type==1&&P.cellsOf f2.type==1&&P.cellsOf f3.type==1&&P.cellsOf f4.type==1&&P.cellsOf f5.type==1&&f0.offset==0&&f1.offset==1&&f2.offset==2&&f3.offset==3&&f4.offset==4&&f5.offset==5)=true)
  (h:DataW.trod enc P w base spare held fuel e cs=some x):∃v0 v1 v2 v3 v4 v5 k x0 x1 x2 x3 x4 x5,cs=[v0,v1,v2,v3,v4,v5]∧DataW.trod enc P w base spare held k f0.type [v0]=some x0∧DataW.trod enc P w base spare held k f1.type [v1]=some x1∧DataW.trod enc P w base spare held k f2.type [v2]=some x2∧DataW.trod enc P w base spare held k f3.type [v3]=some x3∧DataW.trod enc P w base spare held k f4.type [v4]=some x4∧DataW.trod enc P w base spare held k f5.type [v5]=some x5:=by
 simp at hc
 obtain⟨⟨⟨⟨⟨⟨⟨⟨⟨⟨⟨⟨ce,k0⟩,k1⟩,k2⟩,k3⟩,k4⟩,k5⟩,o0⟩,o1⟩,o2⟩,o3⟩,o4⟩,o5⟩:=hc
 obtain⟨xs,k,_,_,hl,hlen,hf⟩:=DataW.trod_struct he h
 rw[ce] at hl
 match xs,hlen,cs,hl with
 |[y0,y1,y2,y3,y4,y5],_,[v0,v1,v2,v3,v4,v5],_=>
  have g0:=hf 0 f0 rfl
  have g1:=hf 1 f1 rfl
  have g2:=hf 2 f2 rfl
  have g3:=hf 3 f3 rfl
  have g4:=hf 4 f4 rfl
  have g5:=hf 5 f5 rfl
  simp[o0,k0] at g0
  simp[o1,k1] at g1
  simp[o2,k2] at g2
  simp[o3,k3] at g3
  simp[o4,k4] at g4
  simp[o5,k5] at g5
  exact⟨v0,v1,v2,v3,v4,v5,k,_,_,_,_,_,_,rfl,g0,g1,g2,g3,g4,g5⟩
end OpensB
namespace Bx16
def Bx7(w:World)(base g:Nat)(v0 v1 v2 v3 v4 v5 v6:Value):Prop:=w.ownsRow base 42 7 (.slice (some ⟨g,0,none⟩) 1 1) 1 [v0,v1,v2,v3,v4,v5,v6]
theorem Bx7.made{w:World}{base g:Nat}(v0 v1 v2 v3 v4 v5 v6:Value)(hb:base≤w.heap.size)(hg:g=w.heap.size):Bx7 (w.alloc (.cells #[v0,v1,v2,v3,v4,v5,v6] 42)) base g v0 v1 v2 v3 v4 v5 v6:=by
 subst hg
 exact⟨rfl,.inr ⟨w.heap.size,1,#[v0,v1,v2,v3,v4,v5,v6],rfl,hb,heap_alloc_new w _,Nat.le_refl _,by unfold maxLen;omega,rfl,rfl⟩⟩
section
variable {w w':World} {base g:Nat} {v0 v1 v2 v3 v4 v5 v6:Value}
theorem Bx7.lt(h:Bx7 w base g v0 v1 v2 v3 v4 v5 v6):base≤g∧g<w.heap.size:=World.ownsRow.lt h g rfl
theorem Bx7.free(h:Bx7 w base g v0 v1 v2 v3 v4 v5 v6)(i:Nat):w.frozen? ⟨g,i,none⟩=false:=World.ownsRow.frozenAt h i
theorem Bx7.c0(h:Bx7 w base g v0 v1 v2 v3 v4 v5 v6):w.cell? ⟨g,0,none⟩=some v0:=(World.ownsRow.cellAt h 0 (by omega)).trans rfl
theorem Bx7.c1(h:Bx7 w base g v0 v1 v2 v3 v4 v5 v6):w.cell? ⟨g,1,none⟩=some v1:=(World.ownsRow.cellAt h 1 (by omega)).trans rfl
theorem Bx7.c2(h:Bx7 w base g v0 v1 v2 v3 v4 v5 v6):w.cell? ⟨g,2,none⟩=some v2:=(World.ownsRow.cellAt h 2 (by omega)).trans rfl
theorem Bx7.c3(h:Bx7 w base g v0 v1 v2 v3 v4 v5 v6):w.cell? ⟨g,3,none⟩=some v3:=(World.ownsRow.cellAt h 3 (by omega)).trans rfl
theorem Bx7.c4(h:Bx7 w base g v0 v1 v2 v3 v4 v5 v6):w.cell? ⟨g,4,none⟩=some v4:=(World.ownsRow.cellAt h 4 (by omega)).trans rfl
theorem Bx7.c5(h:Bx7 w base g v0 v1 v2 v3 v4 v5 v6):w.cell? ⟨g,5,none⟩=some v5:=(World.ownsRow.cellAt h 5 (by omega)).trans rfl
theorem Bx7.c6(h:Bx7 w base g v0 v1 v2 v3 v4 v5 v6):w.cell? ⟨g,6,none⟩=some v6:=(World.ownsRow.cellAt h 6 (by omega)).trans rfl
theorem Bx7.set0(h:Bx7 w base g v0 v1 v2 v3 v4 v5 v6)(u:Value):Bx7 (w.setCell ⟨g,0,none⟩ u) base g u v1 v2 v3 v4 v5 v6∧w.grownBy (w.setCell ⟨g,0,none⟩ u) (some g):=World.ownsRow.stored h 0 u
theorem Bx7.set1(h:Bx7 w base g v0 v1 v2 v3 v4 v5 v6)(u:Value):Bx7 (w.setCell ⟨g,1,none⟩ u) base g v0 u v2 v3 v4 v5 v6∧w.grownBy (w.setCell ⟨g,1,none⟩ u) (some g):=World.ownsRow.stored h 1 u
theorem Bx7.set2(h:Bx7 w base g v0 v1 v2 v3 v4 v5 v6)(u:Value):Bx7 (w.setCell ⟨g,2,none⟩ u) base g v0 v1 u v3 v4 v5 v6∧w.grownBy (w.setCell ⟨g,2,none⟩ u) (some g):=World.ownsRow.stored h 2 u
theorem Bx7.set3(h:Bx7 w base g v0 v1 v2 v3 v4 v5 v6)(u:Value):Bx7 (w.setCell ⟨g,3,none⟩ u) base g v0 v1 v2 u v4 v5 v6∧w.grownBy (w.setCell ⟨g,3,none⟩ u) (some g):=World.ownsRow.stored h 3 u
theorem Bx7.set4(h:Bx7 w base g v0 v1 v2 v3 v4 v5 v6)(u:Value):Bx7 (w.setCell ⟨g,4,none⟩ u) base g v0 v1 v2 v3 u v5 v6∧w.grownBy (w.setCell ⟨g,4,none⟩ u) (some g):=World.ownsRow.stored h 4 u
theorem Bx7.set5(h:Bx7 w base g v0 v1 v2 v3 v4 v5 v6)(u:Value):Bx7 (w.setCell ⟨g,5,none⟩ u) base g v0 v1 v2 v3 v4 u v6∧w.grownBy (w.setCell ⟨g,5,none⟩ u) (some g):=World.ownsRow.stored h 5 u
theorem Bx7.set6(h:Bx7 w base g v0 v1 v2 v3 v4 v5 v6)(u:Value):Bx7 (w.setCell ⟨g,6,none⟩ u) base g v0 v1 v2 v3 v4 v5 u∧w.grownBy (w.setCell ⟨g,6,none⟩ u) (some g):=World.ownsRow.stored h 6 u
theorem Bx7.below{B:Nat}(h:Bx7 w base g v0 v1 v2 v3 v4 v5 v6)(k:Below B w w')(hg:g<B):Bx7 w' base g v0 v1 v2 v3 v4 v5 v6:=by
 refine⟨h.1,?_⟩
 rcases h.2 with⟨h1,_⟩|⟨g',c,cur,h1,h2,h3,h4⟩
 ·simp at h1
 ·have e:g=g':=by simp at h1;exact h1.1
  subst e
  exact .inr ⟨g,c,cur,h1,h2,(k.block g hg).trans h3,h4⟩
theorem Bx7.kept{row:Option Nat}(h:Bx7 w base g v0 v1 v2 v3 v4 v5 v6)(k:w.grownBy w' row)(hne:some g≠row):Bx7 w' base g v0 v1 v2 v3 v4 v5 v6:=World.ownsRow.kept h k (Or.inr hne)
end
theorem grow_grow{w w1 w2:World}{row:Option Nat}(h:w.grownBy w1 row)(k:w1.grownBy w2 row):w.grownBy w2 row:=
 ⟨k.os.trans h.os,k.tape.trans h.tape,k.output.trans h.output,Nat.le_trans h.size k.size,fun i hi hr=>(k.block i (Nat.lt_of_lt_of_le hi h.size) hr).trans (h.block i hi hr)⟩
theorem grow_low{B:Nat}{w W W':World}{G:Nat}(h:Below B w W)(k:W.grownBy W' (some G))(hB:B≤G∧B≤W.heap.size):Below B w W':=
 ⟨k.os.trans h.os,k.tape.trans h.tape,k.output.trans h.output,Nat.le_trans h.size k.size,fun i hi=>(k.block i (by omega) (by simp;omega)).trans (h.block i hi)⟩
end Bx16
namespace INums13
open BMem Bks SPuts11 SNums13
open IBalsFit (St one_more)
open Bals (T3 el3)
open Tup5 (T5 el5)
open Tup8 (T8 el8)
theorem iNums(w:World)(x:Bx)(h:Rd w x)(ha:∀i,i<x.b.bs.length→-1000000000000000≤(el3 x.b.bs i).2.2∧(el3 x.b.bs i).2.2≤1000000000000000):
  Calls Tryz.prog 155 #[.agg #[.slice (some ⟨x.ga,0,none⟩) x.b.ac.length x.ca,.slice (some ⟨x.gi,0,none⟩) x.b.ic.length x.ci,.slice (some ⟨x.gb,0,none⟩) x.b.bs.length x.cb,.slice (some ⟨x.gl,0,none⟩) x.b.ls.length x.cl,.slice (some ⟨x.gt,0,none⟩) x.b.ts.length x.ct,.int .i64 x.b.lot]] w fun e w'=>∃g c,e= .returned (.slice (some ⟨g,0,none⟩) (nums x.b).length c)∧Ints.Own w' w.heap.size g (nums x.b).length c (nums x.b)∧Below w.heap.size w w':=by
 have S0:=zh (St.start h 40)
 have XB:=zh (show((x.ga<w.heap.size∧x.gi<w.heap.size)∧x.gb<w.heap.size) from⟨⟨h.la,h.li⟩,h.lb⟩)
 have na:=h.na
 have ni:=h.ni
 have nb:=h.nb
 have nl:=h.nl
 have nt:=h.nt
 have HA:=zh ha
 clear h ha
 go_enter Tryz.func155,Tryz.ntmps155
 have s0:=(zu S0).c.c0
 go_wp2
 clear s0
 generalize hW:(w.alloc (.cells #[.slice (some ⟨x.ga,0,none⟩) x.b.ac.length x.ca,.slice (some ⟨x.gi,0,none⟩) x.b.ic.length x.ci,.slice (some ⟨x.gb,0,none⟩) x.b.bs.length x.cb,.slice (some ⟨x.gl,0,none⟩) x.b.ls.length x.cl,.slice (some ⟨x.gt,0,none⟩) x.b.ts.length x.ct,.int .i64 x.b.lot] 40))=W0 at *
 have ws:W0.heap.size=w.heap.size+1:=by rw[←hW];simp
 have O0:=zh (show Ints.Own (W0.alloc (.cells #[.int .i64 x.b.ac.length] 3)) W0.heap.size (w.heap.size+1) 1 1 [(x.b.ac.length:Int)] from by rw[←ws];exact World.ownsRow_lit W0 #[.int .i64 x.b.ac.length] 1 (Nat.le_refl _) (by decide) rfl)
 have B0:=zh (one_more W0 (.cells #[.int .i64 x.b.ac.length] 3))
 clear hW
 generalize hA:[(x.b.ac.length:Int)]=A0 at *
 have HA0:=zh hA
 clear hA
 go_loopw [3,5,21] (fun l _ i wr=>∃(k g c n:Nat),i= .int .i64 k∧k≤x.b.ac.length∧l= .slice (some ⟨g,0,none⟩) n c∧n≤1+2*k∧Hid (Ints.Own wr W0.heap.size g n c (A0++(x.b.ac.take k).flatMap row2))∧Hid (Below W0.heap.size W0 wr)) (fun _ _ i _=>x.b.ac.length-(intOf i).toNat)
 case atStart=>exact⟨0,_,_,_,rfl,by omega,rfl,by omega,zh (by simpa using zu O0),B0⟩
 case round=>
  clear O0 B0
  obtain⟨k,g,c,n,rfl,hk,rfl,nk,HO,HB⟩:=hrel
  have bs:=(zu HB).size
  have og:=(zu HO).lt
  have S1:=zh ((zu S0).step (zu HB))
  have cf:=(zu S1).c.c0
  by_cases t:k<x.b.ac.length
  ·have kt:(k:Int)<x.b.ac.length:=by omega
   have d:=(zu S1).r.ra k t
   have lg:=(zu S1).r.la
   have NX:=zh (flat_more (f:=row2) ((0,0):Int×Int) t)
   change Hid (_=_++row2 (Chart.el x.b.ac k)) at NX
   change wr.cell? ⟨x.ga,k*2,none⟩=some (.int .i64 (Chart.el x.b.ac k).1)∧wr.cell? ⟨x.ga,k*2+1,none⟩=some (.int .i64 (Chart.el x.b.ac k).2) at d
   generalize Chart.el x.b.ac k=p at *
   obtain⟨p0,p1⟩:=p
   obtain⟨d0,d1⟩:=d
   have LL:=zh (lit2 (wr.alloc (.cells #[.int .i64 p0,.int .i64 p1] 143)) p0 p1)
   rw[show(wr.alloc (.cells #[.int .i64 p0,.int .i64 p1] 143)).heap.size=wr.heap.size+1 by simp] at LL
   go_wp2_with (first|(at_builtin;refine wp_catI _ rfl _ _ rfl W0.heap.size g n c 2 _ [p0,p1] (wr.heap.size+1) 2 rfl rfl (own_allocI (own_allocI (zu HO) _) _) rfl (zu LL) (by omega) (by simp;omega) ?_)|go_in)
   intro g9 c9 u9 o9 gr9 loc9
   have O9:=zh o9
   have B9:=zh ((((zu HB).alloc bs (.cells #[.int .i64 p0,.int .i64 p1] 143)).alloc (by simp;omega) (.cells #[.int .i64 p0,.int .i64 p1] 3)).grown gr9 (by simp;omega) (fun j hj=>by cases hj;exact og.1))
   clear o9 gr9 loc9
   go_wp2
   go_roundw
   case rel=>exact⟨k+1,g9,c9,n+2,by go_num,by omega,rfl,by omega,zh (by rw[zu NX];first|exact zu O9|(rw[ws];exact zu O9)|(rw[←List.append_assoc];exact zu O9)|(rw[←List.append_assoc,ws];exact zu O9)),B9⟩
   case measure=>simp[intOf];omega
  ·have e:k=x.b.ac.length:=by omega
   subst e
   have O:=zu HO
   rw[List.take_length] at O
   have HO:=zh O
   clear O hk t
   have cg:=(zu S1).c.c1
   go_wp2_with (first|(at_builtin;refine wp_catI _ rfl _ _ rfl W0.heap.size g n c 1 _ [(x.b.ic.length:Int)] _ 1 rfl rfl (own_allocI (zu HO) _) rfl (lit1 _ _) (by omega) (by simp;omega) ?_)|go_in)
   intro g9 c9 u9 o9 gr9 loc9
   have O1:=zh (show Ints.Own u9 W0.heap.size g9 (n+1) c9 (A0++x.b.ac.flatMap row2++[(x.b.ic.length:Int)]) from by first|exact o9|(rw[List.append_assoc];exact o9)|(rw[ws];exact o9)|(rw[ws,List.append_assoc];exact o9))
   have B1:=zh (((zu HB).alloc bs (.cells #[.int .i64 (x.b.ic.length:Int)] 3)).grown gr9 (by simp;omega) (fun j hj=>by cases hj;exact og.1))
   have n9:n+1≤1+2*1048576+1:=by omega
   clear o9 gr9 loc9 HO HB S1 cf cg bs og
   generalize hA:A0++x.b.ac.flatMap row2++[(x.b.ic.length:Int)]=A1 at *
   have HA1:=zh hA
   clear hA
   have cn:=((zu S0).step (zu B1)).c.c1
   go_wp2
   clear cn
   go_loopw [3,7,42] (fun l _ i wr=>∃(k g c n:Nat),i= .int .i64 k∧k≤x.b.ic.length∧l= .slice (some ⟨g,0,none⟩) n c∧n≤1+2*1048576+1+2*k∧Hid (Ints.Own wr W0.heap.size g n c (A1++(x.b.ic.take k).flatMap row2))∧Hid (Below W0.heap.size W0 wr)) (fun _ _ i _=>x.b.ic.length-(intOf i).toNat)
   case atStart=>exact⟨0,_,_,_,rfl,by omega,rfl,by omega,zh (by simpa using zu O1),B1⟩
   case round=>
    clear O1 B1
    obtain⟨k,g,c,n,rfl,hk,rfl,nk,HO,HB⟩:=hrel
    have bs:=(zu HB).size
    have og:=(zu HO).lt
    have S1:=zh ((zu S0).step (zu HB))
    have cf:=(zu S1).c.c1
    by_cases t:k<x.b.ic.length
    ·have kt:(k:Int)<x.b.ic.length:=by omega
     have d:=(zu S1).r.ri k t
     have lg:=(zu S1).r.li
     have NX:=zh (flat_more (f:=row2) ((0,0):Int×Int) t)
     change Hid (_=_++row2 (Chart.el x.b.ic k)) at NX
     change wr.cell? ⟨x.gi,k*2,none⟩=some (.int .i64 (Chart.el x.b.ic k).1)∧wr.cell? ⟨x.gi,k*2+1,none⟩=some (.int .i64 (Chart.el x.b.ic k).2) at d
     generalize Chart.el x.b.ic k=p at *
     obtain⟨p0,p1⟩:=p
     obtain⟨d0,d1⟩:=d
     have LL:=zh (lit2 (wr.alloc (.cells #[.int .i64 p0,.int .i64 p1] 144)) p0 p1)
     rw[show(wr.alloc (.cells #[.int .i64 p0,.int .i64 p1] 144)).heap.size=wr.heap.size+1 by simp] at LL
     go_wp2_with (first|(at_builtin;refine wp_catI _ rfl _ _ rfl W0.heap.size g n c 2 _ [p0,p1] (wr.heap.size+1) 2 rfl rfl (own_allocI (own_allocI (zu HO) _) _) rfl (zu LL) (by omega) (by simp;omega) ?_)|go_in)
     intro g9 c9 u9 o9 gr9 loc9
     have O9:=zh o9
     have B9:=zh ((((zu HB).alloc bs (.cells #[.int .i64 p0,.int .i64 p1] 144)).alloc (by simp;omega) (.cells #[.int .i64 p0,.int .i64 p1] 3)).grown gr9 (by simp;omega) (fun j hj=>by cases hj;exact og.1))
     clear o9 gr9 loc9
     go_wp2
     go_roundw
     case rel=>exact⟨k+1,g9,c9,n+2,by go_num,by omega,rfl,by omega,zh (by rw[zu NX];first|exact zu O9|(rw[ws];exact zu O9)|(rw[←List.append_assoc];exact zu O9)|(rw[←List.append_assoc,ws];exact zu O9)),B9⟩
     case measure=>simp[intOf];omega
    ·have e:k=x.b.ic.length:=by omega
     subst e
     have O:=zu HO
     rw[List.take_length] at O
     have HO:=zh O
     clear O hk t
     have cg:=(zu S1).c.c2
     go_wp2_with (first|(at_builtin;refine wp_catI _ rfl _ _ rfl W0.heap.size g n c 1 _ [(x.b.bs.length:Int)] _ 1 rfl rfl (own_allocI (zu HO) _) rfl (lit1 _ _) (by omega) (by simp;omega) ?_)|go_in)
     intro g9 c9 u9 o9 gr9 loc9
     have O2:=zh (show Ints.Own u9 W0.heap.size g9 (n+1) c9 (A1++x.b.ic.flatMap row2++[(x.b.bs.length:Int)]) from by first|exact o9|(rw[List.append_assoc];exact o9)|(rw[ws];exact o9)|(rw[ws,List.append_assoc];exact o9))
     have B2:=zh (((zu HB).alloc bs (.cells #[.int .i64 (x.b.bs.length:Int)] 3)).grown gr9 (by simp;omega) (fun j hj=>by cases hj;exact og.1))
     have n9:n+1≤1+2*1048576+1+2*1048576+1:=by omega
     clear o9 gr9 loc9 HO HB S1 cf cg bs og
     generalize hA:A1++x.b.ic.flatMap row2++[(x.b.bs.length:Int)]=A2 at *
     have HA2:=zh hA
     clear hA
     have cn:=((zu S0).step (zu B2)).c.c2
     go_wp2
     clear cn
     go_loopw [3,9,63] (fun l _ i wr=>∃(k g c n:Nat),i= .int .i64 k∧k≤x.b.bs.length∧l= .slice (some ⟨g,0,none⟩) n c∧n≤1+2*1048576+1+2*1048576+1+3*k∧Hid (Ints.Own wr W0.heap.size g n c (A2++(x.b.bs.take k).flatMap row3))∧Hid (Below W0.heap.size W0 wr)) (fun _ _ i _=>x.b.bs.length-(intOf i).toNat)
     case atStart=>exact⟨0,_,_,_,rfl,by omega,rfl,by omega,zh (by simpa using zu O2),B2⟩
     case round=>
      clear O2 B2
      obtain⟨k,g,c,n,rfl,hk,rfl,nk,HO,HB⟩:=hrel
      have bs:=(zu HB).size
      have og:=(zu HO).lt
      have S1:=zh ((zu S0).step (zu HB))
      have cf:=(zu S1).c.c2
      by_cases t:k<x.b.bs.length
      ·have kt:(k:Int)<x.b.bs.length:=by omega
       have d:=(zu S1).r.rb k t
       have lg:=(zu S1).r.lb
       have NX:=zh (flat_more (f:=row3) ((0,0,0):T3) t)
       change Hid (_=_++row3 (el3 x.b.bs k)) at NX
       have am:=(zu HA) k t
       change wr.cell? ⟨x.gb,k*3,none⟩=some (.int .i64 (el3 x.b.bs k).1)∧wr.cell? ⟨x.gb,k*3+1,none⟩=some (.int .i64 (el3 x.b.bs k).2.1)∧wr.cell? ⟨x.gb,k*3+2,none⟩=some (.int .i64 (el3 x.b.bs k).2.2) at d
       generalize el3 x.b.bs k=p at *
       obtain⟨p0,p1,p2⟩:=p
       obtain⟨d0,d1,d2⟩:=d
       have am1:wrap64 (p2+1000000000000000)=p2+1000000000000000:=by rw[wrap64];simp only at am;omega
       have am2:IntKind.i64.wrap (p2+1000000000000000)=p2+1000000000000000:=by rw[IntKind.wrap_i64];simp only at am;omega
       have LL:=zh (lit3 (wr.alloc (.cells #[.int .i64 p0,.int .i64 p1,.int .i64 p2] 146)) p0 p1 (p2+1000000000000000))
       rw[show(wr.alloc (.cells #[.int .i64 p0,.int .i64 p1,.int .i64 p2] 146)).heap.size=wr.heap.size+1 by simp] at LL
       go_wp2_with (first|(at_builtin;refine wp_catI _ rfl _ _ rfl W0.heap.size g n c 3 _ [p0,p1,(p2+1000000000000000)] (wr.heap.size+1) 3 rfl rfl (own_allocI (own_allocI (zu HO) _) _) rfl (zu LL) (by omega) (by simp;omega) ?_)|go_in)
       intro g9 c9 u9 o9 gr9 loc9
       have O9:=zh o9
       have B9:=zh ((((zu HB).alloc bs (.cells #[.int .i64 p0,.int .i64 p1,.int .i64 p2] 146)).alloc (by simp;omega) (.cells #[.int .i64 p0,.int .i64 p1,.int .i64 (p2+1000000000000000)] 3)).grown gr9 (by simp;omega) (fun j hj=>by cases hj;exact og.1))
       clear o9 gr9 loc9
       go_wp2
       go_roundw
       case rel=>exact⟨k+1,g9,c9,n+3,by go_num,by omega,rfl,by omega,zh (by rw[zu NX];first|exact zu O9|(rw[ws];exact zu O9)|(rw[←List.append_assoc];exact zu O9)|(rw[←List.append_assoc,ws];exact zu O9)),B9⟩
       case measure=>simp[intOf];omega
      ·have e:k=x.b.bs.length:=by omega
       subst e
       have O:=zu HO
       rw[List.take_length] at O
       have HO:=zh O
       clear O hk t
       have cg:=(zu S1).c.c3
       go_wp2_with (first|(at_builtin;refine wp_catI _ rfl _ _ rfl W0.heap.size g n c 1 _ [(x.b.ls.length:Int)] _ 1 rfl rfl (own_allocI (zu HO) _) rfl (lit1 _ _) (by omega) (by simp;omega) ?_)|go_in)
       intro g9 c9 u9 o9 gr9 loc9
       have O3:=zh (show Ints.Own u9 W0.heap.size g9 (n+1) c9 (A2++x.b.bs.flatMap row3++[(x.b.ls.length:Int)]) from by first|exact o9|(rw[List.append_assoc];exact o9)|(rw[ws];exact o9)|(rw[ws,List.append_assoc];exact o9))
       have B3:=zh (((zu HB).alloc bs (.cells #[.int .i64 (x.b.ls.length:Int)] 3)).grown gr9 (by simp;omega) (fun j hj=>by cases hj;exact og.1))
       have n9:n+1≤1+2*1048576+1+2*1048576+1+3*1048576+1:=by omega
       clear o9 gr9 loc9 HO HB S1 cf cg bs og
       generalize hA:A2++x.b.bs.flatMap row3++[(x.b.ls.length:Int)]=A3 at *
       have HA3:=zh hA
       clear hA
       have cn:=((zu S0).step (zu B3)).c.c3
       go_wp2
       clear cn
       go_loopw [3,11,87] (fun l _ i wr=>∃(k g c n:Nat),i= .int .i64 k∧k≤x.b.ls.length∧l= .slice (some ⟨g,0,none⟩) n c∧n≤1+2*1048576+1+2*1048576+1+3*1048576+1+5*k∧Hid (Ints.Own wr W0.heap.size g n c (A3++(x.b.ls.take k).flatMap row5))∧Hid (Below W0.heap.size W0 wr)) (fun _ _ i _=>x.b.ls.length-(intOf i).toNat)
       case atStart=>exact⟨0,_,_,_,rfl,by omega,rfl,by omega,zh (by simpa using zu O3),B3⟩
       case round=>
        clear O3 B3
        obtain⟨k,g,c,n,rfl,hk,rfl,nk,HO,HB⟩:=hrel
        have bs:=(zu HB).size
        have og:=(zu HO).lt
        have S1:=zh ((zu S0).step (zu HB))
        have cf:=(zu S1).c.c3
        by_cases t:k<x.b.ls.length
        ·have kt:(k:Int)<x.b.ls.length:=by omega
         have d:=(zu S1).r.rl k t
         have lg:=(zu S1).r.ll
         have NX:=zh (flat_more (f:=row5) ((0,0,0,0,0):T5) t)
         change Hid (_=_++row5 (el5 x.b.ls k)) at NX
         change wr.cell? ⟨x.gl,k*5,none⟩=some (.int .i64 (el5 x.b.ls k).1)∧wr.cell? ⟨x.gl,k*5+1,none⟩=some (.int .i64 (el5 x.b.ls k).2.1)∧wr.cell? ⟨x.gl,k*5+2,none⟩=some (.int .i64 (el5 x.b.ls k).2.2.1)∧wr.cell? ⟨x.gl,k*5+3,none⟩=some (.int .i64 (el5 x.b.ls k).2.2.2.1)∧wr.cell? ⟨x.gl,k*5+4,none⟩=some (.int .i64 (el5 x.b.ls k).2.2.2.2) at d
         generalize el5 x.b.ls k=p at *
         obtain⟨p0,p1,p2,p3,p4⟩:=p
         obtain⟨d0,d1,d2,d3,d4⟩:=d
         have LL:=zh (lit5 (wr.alloc (.cells #[.int .i64 p0,.int .i64 p1,.int .i64 p2,.int .i64 p3,.int .i64 p4] 148)) p0 p1 p2 p3 p4)
         rw[show(wr.alloc (.cells #[.int .i64 p0,.int .i64 p1,.int .i64 p2,.int .i64 p3,.int .i64 p4] 148)).heap.size=wr.heap.size+1 by simp] at LL
         go_wp2_with (first|(at_builtin;refine wp_catI _ rfl _ _ rfl W0.heap.size g n c 5 _ [p0,p1,p2,p3,p4] (wr.heap.size+1) 5 rfl rfl (own_allocI (own_allocI (zu HO) _) _) rfl (zu LL) (by omega) (by simp;omega) ?_)|go_in)
         intro g9 c9 u9 o9 gr9 loc9
         have O9:=zh o9
         have B9:=zh ((((zu HB).alloc bs (.cells #[.int .i64 p0,.int .i64 p1,.int .i64 p2,.int .i64 p3,.int .i64 p4] 148)).alloc (by simp;omega) (.cells #[.int .i64 p0,.int .i64 p1,.int .i64 p2,.int .i64 p3,.int .i64 p4] 3)).grown gr9 (by simp;omega) (fun j hj=>by cases hj;exact og.1))
         clear o9 gr9 loc9
         go_wp2
         go_roundw
         case rel=>exact⟨k+1,g9,c9,n+5,by go_num,by omega,rfl,by omega,zh (by rw[zu NX];first|exact zu O9|(rw[ws];exact zu O9)|(rw[←List.append_assoc];exact zu O9)|(rw[←List.append_assoc,ws];exact zu O9)),B9⟩
         case measure=>simp[intOf];omega
        ·have e:k=x.b.ls.length:=by omega
         subst e
         have O:=zu HO
         rw[List.take_length] at O
         have HO:=zh O
         clear O hk t
         have cg:=(zu S1).c.c4
         go_wp2_with (first|(at_builtin;refine wp_catI _ rfl _ _ rfl W0.heap.size g n c 1 _ [(x.b.ts.length:Int)] _ 1 rfl rfl (own_allocI (zu HO) _) rfl (lit1 _ _) (by omega) (by simp;omega) ?_)|go_in)
         intro g9 c9 u9 o9 gr9 loc9
         have O4:=zh (show Ints.Own u9 W0.heap.size g9 (n+1) c9 (A3++x.b.ls.flatMap row5++[(x.b.ts.length:Int)]) from by first|exact o9|(rw[List.append_assoc];exact o9)|(rw[ws];exact o9)|(rw[ws,List.append_assoc];exact o9))
         have B4:=zh (((zu HB).alloc bs (.cells #[.int .i64 (x.b.ts.length:Int)] 3)).grown gr9 (by simp;omega) (fun j hj=>by cases hj;exact og.1))
         have n9:n+1≤1+2*1048576+1+2*1048576+1+3*1048576+1+5*1048576+1:=by omega
         clear o9 gr9 loc9 HO HB S1 cf cg bs og
         generalize hA:A3++x.b.ls.flatMap row5++[(x.b.ts.length:Int)]=A4 at *
         have HA4:=zh hA
         clear hA
         have cn:=((zu S0).step (zu B4)).c.c4
         go_wp2
         clear cn
         go_loopw [3,13,114] (fun l _ i wr=>∃(k g c n:Nat),i= .int .i64 k∧k≤x.b.ts.length∧l= .slice (some ⟨g,0,none⟩) n c∧n≤1+2*1048576+1+2*1048576+1+3*1048576+1+5*1048576+1+8*k∧Hid (Ints.Own wr W0.heap.size g n c (A4++(x.b.ts.take k).flatMap row8))∧Hid (Below W0.heap.size W0 wr)) (fun _ _ i _=>x.b.ts.length-(intOf i).toNat)
         case atStart=>exact⟨0,_,_,_,rfl,by omega,rfl,by omega,zh (by simpa using zu O4),B4⟩
         case round=>
          clear O4 B4
          obtain⟨k,g,c,n,rfl,hk,rfl,nk,HO,HB⟩:=hrel
          have bs:=(zu HB).size
          have og:=(zu HO).lt
          have S1:=zh ((zu S0).step (zu HB))
          have cf:=(zu S1).c.c4
          by_cases t:k<x.b.ts.length
          ·have kt:(k:Int)<x.b.ts.length:=by omega
           have d:=(zu S1).r.rt k t
           have lg:=(zu S1).r.lt
           have NX:=zh (flat_more (f:=row8) ((0,0,0,0,0,0,0,0):T8) t)
           change Hid (_=_++row8 (el8 x.b.ts k)) at NX
           change wr.cell? ⟨x.gt,k*8,none⟩=some (.int .i64 (el8 x.b.ts k).1)∧wr.cell? ⟨x.gt,k*8+1,none⟩=some (.int .i64 (el8 x.b.ts k).2.1)∧wr.cell? ⟨x.gt,k*8+2,none⟩=some (.int .i64 (el8 x.b.ts k).2.2.1)∧wr.cell? ⟨x.gt,k*8+3,none⟩=some (.int .i64 (el8 x.b.ts k).2.2.2.1)∧wr.cell? ⟨x.gt,k*8+4,none⟩=some (.int .i64 (el8 x.b.ts k).2.2.2.2.1)∧wr.cell? ⟨x.gt,k*8+5,none⟩=some (.int .i64 (el8 x.b.ts k).2.2.2.2.2.1)∧wr.cell? ⟨x.gt,k*8+6,none⟩=some (.int .i64 (el8 x.b.ts k).2.2.2.2.2.2.1)∧wr.cell? ⟨x.gt,k*8+7,none⟩=some (.int .i64 (el8 x.b.ts k).2.2.2.2.2.2.2) at d
           generalize el8 x.b.ts k=p at *
           obtain⟨p0,p1,p2,p3,p4,p5,p6,p7⟩:=p
           obtain⟨d0,d1,d2,d3,d4,d5,d6,d7⟩:=d
           have LL:=zh (lit8 (wr.alloc (.cells #[.int .i64 p0,.int .i64 p1,.int .i64 p2,.int .i64 p3,.int .i64 p4,.int .i64 p5,.int .i64 p6,.int .i64 p7] 141)) p0 p1 p2 p3 p4 p5 p6 p7)
           rw[show(wr.alloc (.cells #[.int .i64 p0,.int .i64 p1,.int .i64 p2,.int .i64 p3,.int .i64 p4,.int .i64 p5,.int .i64 p6,.int .i64 p7] 141)).heap.size=wr.heap.size+1 by simp] at LL
           go_wp2_with (first|(at_builtin;refine wp_catI _ rfl _ _ rfl W0.heap.size g n c 8 _ [p0,p1,p2,p3,p4,p5,p6,p7] (wr.heap.size+1) 8 rfl rfl (own_allocI (own_allocI (zu HO) _) _) rfl (zu LL) (by omega) (by simp;omega) ?_)|go_in)
           intro g9 c9 u9 o9 gr9 loc9
           have O9:=zh o9
           have B9:=zh ((((zu HB).alloc bs (.cells #[.int .i64 p0,.int .i64 p1,.int .i64 p2,.int .i64 p3,.int .i64 p4,.int .i64 p5,.int .i64 p6,.int .i64 p7] 141)).alloc (by simp;omega) (.cells #[.int .i64 p0,.int .i64 p1,.int .i64 p2,.int .i64 p3,.int .i64 p4,.int .i64 p5,.int .i64 p6,.int .i64 p7] 3)).grown gr9 (by simp;omega) (fun j hj=>by cases hj;exact og.1))
           clear o9 gr9 loc9
           go_wp2
           go_roundw
           case rel=>exact⟨k+1,g9,c9,n+8,by go_num,by omega,rfl,by omega,zh (by rw[zu NX];first|exact zu O9|(rw[ws];exact zu O9)|(rw[←List.append_assoc];exact zu O9)|(rw[←List.append_assoc,ws];exact zu O9)),B9⟩
           case measure=>simp[intOf];omega
          ·have e:k=x.b.ts.length:=by omega
           subst e
           have O:=zu HO
           rw[List.take_length] at O
           have HO:=zh O
           clear O hk t
           have cg:=(zu S1).c.c5
           go_wp2_with (first|(at_builtin;refine wp_catI _ rfl _ _ rfl W0.heap.size g n c 1 _ [x.b.lot] _ 1 rfl rfl (own_allocI (zu HO) _) rfl (lit1 _ _) (by omega) (by simp;omega) ?_)|go_in)
           intro g9 c9 u9 o9 gr9 loc9
           have O9:=zh o9
           have B9:=zh (((zu HB).alloc bs (.cells #[.int .i64 x.b.lot] 3)).grown gr9 (by simp;omega) (fun j hj=>by cases hj;exact og.1))
           clear o9 gr9 loc9
           go_wp2
           go_ret
           have E:A4++x.b.ts.flatMap row8++[x.b.lot]=nums x.b:=by rw[←zu HA4,←zu HA3,←zu HA2,←zu HA1,←zu HA0];rfl
           have O:Ints.Own u9 W0.heap.size g9 (n+1) c9 (A4++x.b.ts.flatMap row8++[x.b.lot]):=by first|exact zu O9|(rw[List.append_assoc];exact zu O9)|(rw[ws];exact zu O9)|(rw[ws,List.append_assoc];exact zu O9)
           rw[E] at O
           have l:=O.len
           refine⟨g9,c9,?_,?_,((zu S0).b.trans ((zu B9).mono (by omega)))⟩
           ·rw[l];rfl
           ·rw[l];exact O.mono (by omega)
end INums13
namespace IIndex8
open BMem Bks IRead
open Lots (Says says_of NoOk)
open Tup8 (T8 el8 At8 Holds8)
def FirstAt8(xs:List T8)(p:T8→Bool)(r:Int):Prop:=(r= -1∧∀x∈xs,p x=false)∨(0≤r∧∃x∈xs,p x=true)
theorem iIndexF8(w:World)(g n cap K:Nat)(caps:Array Value)(xs:List T8)(p:T8→Bool)(hl:xs.length=n)(h20:n≤1048576)(hg:g<w.heap.size)(h:At8 w g xs)
  (hK:∀(args:Array Value) (u:World),(callFunc K args).run Tryz.prog u= .ok (.enter K args) u)(hf:∀(u:World) (y:T8),Below w.heap.size w u→Calls Tryz.prog K (#[.agg #[.int .i64 y.1,.int .i64 y.2.1,.int .i64 y.2.2.1,.int .i64 y.2.2.2.1,.int .i64 y.2.2.2.2.1,.int .i64 y.2.2.2.2.2.1,.int .i64 y.2.2.2.2.2.2.1,.int .i64 y.2.2.2.2.2.2.2]]++caps) u fun e u'=>e= .returned (.bool (p y))∧Below u.heap.size u u'):
  Calls Tryz.prog 193 #[.slice (some ⟨g,0,none⟩) n cap,.func (.func K) #[] caps] w fun e w'=>∃r,FirstAt8 xs p r∧e= .returned (.int .i64 r)∧Below w.heap.size w w':=by
 have H:=zh h
 have HF:=zh hf
 have HL:=zh hl
 clear h hf hl
 go_enter Tryz.func193,Tryz.ntmps193
 go_wp2_with fail
 go_loopw [8] (fun i wr=>∃(k:Nat),k≤n∧i= .int .i64 k∧(∀j,j<k→p (el8 xs j)=false)∧Below w.heap.size w wr) (fun i _=>n-(intOf i).toNat)
 case atStart=>exact⟨0,by omega,rfl,fun j hj=>by omega,Below.refl _ _⟩
 case round=>
  obtain⟨k,hk,rfl,hn,hb⟩:=hrel
  have HB:=zh hb
  have HN:=zh hn
  by_cases t:k<n
  ·obtain⟨c0,c1,c2,c3,c4,c5,c6,c7⟩:=((zu H).below hb hg) k (by rw[zu HL];exact t)
   have hM:el8 xs k∈xs:=by
    simp[el8,List.getD,zu HL,t]
   have HM:=zh hM
   clear hb hn hM
   generalize hy:el8 xs k=y at *
   have HY:=zh hy
   clear hy
   go_wp2_with fail
   refine((zu HF) _ y (zu HB)).mono ?_
   rintro e w1 ⟨rfl,b1⟩
   have B1:=zh (next (zu HB) b1)
   clear b1 c0 c1 c2 c3 c4 c5 c6 c7
   cases hp:p y
   ·go_wp2
    go_roundw
    case rel=>exact⟨k+1,by omega,by go_num,fun j hj=>by
     by_cases e:j=k
     ·subst e;rw[zu HY];exact hp
     ·exact(zu HN) j (by omega),zu B1⟩
    case measure=>simp[intOf];omega
   ·go_wp2
    go_ret
    exact⟨k,.inr ⟨by omega,y,zu HM,hp⟩,rfl,zu B1⟩
  ·clear hb hn
   have hkn:k=n:=by omega
   have E0:=zh (show ∀x∈xs,p x=false from fun x hx=>by
    obtain⟨j,hj,rfl⟩:=List.getElem_of_mem hx
    have:=(zu HN) j (by rw[zu HL] at hj;omega)
    simpa[el8,List.getD,hj] using this)
   clear hkn
   go_wp2
   go_ret
   exact⟨-1,.inl ⟨rfl,zu E0⟩,rfl,zu HB⟩
theorem iContainsF8(w:World)(g n cap K:Nat)(caps:Array Value)(xs:List T8)(p:T8→Bool)(b:Bool)(hl:xs.length=n)(h20:n≤1048576)(hg:g<w.heap.size)(h:At8 w g xs)
  (hK:∀(args:Array Value) (u:World),(callFunc K args).run Tryz.prog u= .ok (.enter K args) u)(hf:∀(u:World) (y:T8),Below w.heap.size w u→Calls Tryz.prog K (#[.agg #[.int .i64 y.1,.int .i64 y.2.1,.int .i64 y.2.2.1,.int .i64 y.2.2.2.1,.int .i64 y.2.2.2.2.1,.int .i64 y.2.2.2.2.2.1,.int .i64 y.2.2.2.2.2.2.1,.int .i64 y.2.2.2.2.2.2.2]]++caps) u fun e u'=>e= .returned (.bool (p y))∧Below u.heap.size u u')(hb:Says b (∃x∈xs,p x=true)):
  Calls Tryz.prog 172 #[.slice (some ⟨g,0,none⟩) n cap,.func (.func K) #[] caps] w fun e w'=>e= .returned (.bool b)∧Below w.heap.size w w':=by
 have H:=zh h
 have HF:=zh hf
 have HL:=zh hl
 have T:=zh hb
 clear h hf hl hb
 go_enter Tryz.func172,Tryz.ntmps172
 go_wp2_with fail
 refine(iIndexF8 _ g n cap K caps xs p (zu HL) h20 hg (zu H) hK (zu HF)).mono ?_
 rintro e w1 ⟨r,hr,rfl,b1⟩
 have B1:=zh b1
 have hd:decide (0≤r)=b:=by
  rcases hr with⟨rfl,hr⟩|⟨h0,hr⟩
  ·rw[(zu T).not (fun⟨x,hx,e⟩=>by rw[hr x hx] at e;cases e)];rfl
  ·rw[(zu T).of hr];exact decide_eq_true h0
 clear b1 hr
 go_wp2
 go_ret
 exact⟨rfl,zu B1⟩
end IIndex8
namespace ITradesFit
open BMem Bks IRead IHave ITrade ILists IBalsFit IIndex8
open Lots (Says says_of NoOk)
open Tup8 (T8 el8 At8 Holds8)
theorem iTradeFits(w:World)(x:Bx)(y0 y1 y2 y3 y4 y5 y6 y7:Int)(b:Bool)(h:Rd w x)(ha:Chart.Right 20 4 x.b.ac)(hi:Chart.Right 8 2 x.b.ic)(hb:Says b (TradeFit x.b (y0,y1,y2,y3,y4,y5,y6,y7))):
  Calls Tryz.prog 174 #[.agg #[.slice (some ⟨x.ga,0,none⟩) x.b.ac.length x.ca,.slice (some ⟨x.gi,0,none⟩) x.b.ic.length x.ci,.slice (some ⟨x.gb,0,none⟩) x.b.bs.length x.cb,.slice (some ⟨x.gl,0,none⟩) x.b.ls.length x.cl,.slice (some ⟨x.gt,0,none⟩) x.b.ts.length x.ct,.int .i64 x.b.lot],.agg #[.int .i64 y0,.int .i64 y1,.int .i64 y2,.int .i64 y3,.int .i64 y4,.int .i64 y5,.int .i64 y6,.int .i64 y7]] w fun e w'=>e= .returned (.bool b)∧Below w.heap.size w w':=by
 have T:=zh hb
 have LA:=zh ha
 have LI:=zh hi
 have FIT:=zh (show TradeFit x.b (y0,y1,y2,y3,y4,y5,y6,y7)↔kindOf x.b.ac y1=1∧kindOf x.b.ac y2=1∧kindOf x.b.ic y3=2∧kindOf x.b.ic y5=1 from Iff.rfl)
 have S1:=zh ((St.start h 40).step (one_more (w.alloc (.cells #[.slice (some ⟨x.ga,0,none⟩) x.b.ac.length x.ca,.slice (some ⟨x.gi,0,none⟩) x.b.ic.length x.ci,.slice (some ⟨x.gb,0,none⟩) x.b.bs.length x.cb,.slice (some ⟨x.gl,0,none⟩) x.b.ls.length x.cl,.slice (some ⟨x.gt,0,none⟩) x.b.ts.length x.ct,.int .i64 x.b.lot] 40)) (.cells #[.int .i64 y0,.int .i64 y1,.int .i64 y2,.int .i64 y3,.int .i64 y4,.int .i64 y5,.int .i64 y6,.int .i64 y7] 141)))
 clear hb ha hi h
 obtain⟨b1,h1⟩:=says_of (kindOf x.b.ac y1=1)
 obtain⟨b2,h2⟩:=says_of (kindOf x.b.ac y2=1)
 obtain⟨b3,h3⟩:=says_of (kindOf x.b.ic y3=2)
 obtain⟨b4,h4⟩:=says_of (kindOf x.b.ic y5=1)
 have H1:=zh h1
 have H2:=zh h2
 have H3:=zh h3
 have H4:=zh h4
 clear h1 h2 h3 h4
 go_enter Tryz.func174,Tryz.ntmps174
 go_wp2_with fail
 refine(iHolder _ x y1 b1 (zu S1).r (zu LA) (zu H1)).mono ?_
 rintro e w1 ⟨rfl,bb⟩
 have S2:=zh ((zu S1).step bb)
 have f2:w1.cell? ⟨w.heap.size+1,2,none⟩=some (.int .i64 y2):=(bb.cell (p:=⟨w.heap.size+1,2,none⟩) (by simp)).trans (by simp)
 have f3:w1.cell? ⟨w.heap.size+1,3,none⟩=some (.int .i64 y3):=(bb.cell (p:=⟨w.heap.size+1,3,none⟩) (by simp)).trans (by simp)
 have f5:w1.cell? ⟨w.heap.size+1,5,none⟩=some (.int .i64 y5):=(bb.cell (p:=⟨w.heap.size+1,5,none⟩) (by simp)).trans (by simp)
 have z1:w.heap.size+1<w1.heap.size:=by have:=bb.size;simp at this;omega
 clear bb
 cases b1
 ·have F:=zh ((zu T).not (fun hh=>(zu H1).no ((zu FIT).1 hh).1))
  clear FIT T
  go_wp2
  go_ret
  exact⟨by rw[zu F];rfl,(zu S2).b⟩
 obtain⟨c0,c1,c2,c3,c4,c5⟩:=(zu S2).c
 go_wp2_with fail
 refine(iHolder _ x y2 b2 (zu S2).r (zu LA) (zu H2)).mono ?_
 rintro e w2 ⟨rfl,bb⟩
 have S3:=zh ((zu S2).step bb)
 replace f2:w2.cell? ⟨w.heap.size+1,2,none⟩=some (.int .i64 y2):=(bb.cell (p:=⟨w.heap.size+1,2,none⟩) z1).trans f2
 replace f3:w2.cell? ⟨w.heap.size+1,3,none⟩=some (.int .i64 y3):=(bb.cell (p:=⟨w.heap.size+1,3,none⟩) z1).trans f3
 replace f5:w2.cell? ⟨w.heap.size+1,5,none⟩=some (.int .i64 y5):=(bb.cell (p:=⟨w.heap.size+1,5,none⟩) z1).trans f5
 have z2:w.heap.size+1<w2.heap.size:=Nat.lt_of_lt_of_le z1 bb.size
 clear bb c0 c1 c2 c3 c4 c5
 cases b2
 ·have F:=zh ((zu T).not (fun hh=>(zu H2).no ((zu FIT).1 hh).2.1))
  clear FIT T
  go_wp2
  go_ret
  exact⟨by rw[zu F];rfl,(zu S3).b⟩
 obtain⟨c0,c1,c2,c3,c4,c5⟩:=(zu S3).c
 go_wp2_with fail
 refine(iPaper _ x y3 b3 (zu S3).r (zu LI) (zu H3)).mono ?_
 rintro e w3 ⟨rfl,bb⟩
 have S4:=zh ((zu S3).step bb)
 replace f5:w3.cell? ⟨w.heap.size+1,5,none⟩=some (.int .i64 y5):=(bb.cell (p:=⟨w.heap.size+1,5,none⟩) z2).trans f5
 clear bb c0 c1 c2 c3 c4 c5 f2 f3
 cases b3
 ·have F:=zh ((zu T).not (fun hh=>(zu H3).no ((zu FIT).1 hh).2.2.1))
  clear FIT T
  go_wp2
  go_ret
  exact⟨by rw[zu F];rfl,(zu S4).b⟩
 obtain⟨c0,c1,c2,c3,c4,c5⟩:=(zu S4).c
 go_wp2_with fail
 refine(iCash _ x y5 b4 (zu S4).r (zu LI) (zu H4)).mono ?_
 rintro e w4 ⟨rfl,bb⟩
 have S5:=zh ((zu S4).step bb)
 clear bb c0 c1 c2 c3 c4 c5
 have G:=zh (show b=b4 from by
  cases b4
  ·exact(zu T).not (fun hh=>(zu H4).no ((zu FIT).1 hh).2.2.2)
  ·exact(zu T).of ((zu FIT).2 ⟨(zu H1).yes,(zu H2).yes,(zu H3).yes,(zu H4).yes⟩))
 clear FIT T
 go_wp2
 go_ret
 exact⟨by rw[zu G];rfl,(zu S5).b⟩
noncomputable def unfitB (b:Bk) (t:T8):Bool:= @decide (¬TradeFit b t) (Classical.propDecidable _)
theorem unfit_says(b:Bk)(t:T8):Says (!(unfitB b t)) (TradeFit b t):=by
 unfold unfitB
 by_cases h:TradeFit b t
 ·rw[@decide_eq_false _ (Classical.propDecidable _) (fun n:¬TradeFit b t=>n h)]
  exact⟨fun _=>h,fun _=>rfl⟩
 ·rw[@decide_eq_true _ (Classical.propDecidable _) h]
  exact⟨fun e=>Bool.noConfusion e,fun e=>absurd e h⟩
theorem iUnfit(w:World)(x:Bx)(g:Nat)(y:T8)(h:Rd w x)(hgs:g<w.heap.size)(hc:Cl w g x)(ha:Chart.Right 20 4 x.b.ac)(hi:Chart.Right 8 2 x.b.ic):
  Calls Tryz.prog 173 (#[.agg #[.int .i64 y.1,.int .i64 y.2.1,.int .i64 y.2.2.1,.int .i64 y.2.2.2.1,.int .i64 y.2.2.2.2.1,.int .i64 y.2.2.2.2.2.1,.int .i64 y.2.2.2.2.2.2.1,.int .i64 y.2.2.2.2.2.2.2]]++ #[.pointer (some ⟨g,0,none⟩)]) w fun e w'=>e= .returned (.bool (unfitB x.b y))∧Below w.heap.size w w':=by
 obtain⟨y0,y1,y2,y3,y4,y5,y6,y7⟩:=y
 show Calls Tryz.prog 173 #[.agg #[.int .i64 y0,.int .i64 y1,.int .i64 y2,.int .i64 y3,.int .i64 y4,.int .i64 y5,.int .i64 y6,.int .i64 y7],.pointer (some ⟨g,0,none⟩)] w _
 have T:=zh (unfit_says x.b (y0,y1,y2,y3,y4,y5,y6,y7))
 generalize unfitB x.b (y0,y1,y2,y3,y4,y5,y6,y7)=b at *
 have B0:=zh (one_more w (.cells #[.int .i64 y0,.int .i64 y1,.int .i64 y2,.int .i64 y3,.int .i64 y4,.int .i64 y5,.int .i64 y6,.int .i64 y7] 141))
 have H:=zh (h.below (zu B0))
 have LA:=zh ha
 have LI:=zh hi
 obtain⟨c0,c1,c2,c3,c4,c5⟩:=hc.below (zu B0) hgs
 clear h ha hi
 go_enter Tryz.func173,Tryz.ntmps173
 go_wp2_with fail
 refine(iTradeFits _ x y0 y1 y2 y3 y4 y5 y6 y7 (!b) (zu H) (zu LA) (zu LI) (zu T)).mono ?_
 rintro e w1 ⟨rfl,b1⟩
 have B1:=zh (next (zu B0) b1)
 clear b1
 go_wp2
 go_ret
 exact⟨by simp,zu B1⟩
theorem iTradesFit(w:World)(x:Bx)(b:Bool)(h:Rd w x)(hl:Lists x.b)(hb:Says b (TradesFit x.b)):
  Calls Tryz.prog 159 #[.agg #[.slice (some ⟨x.ga,0,none⟩) x.b.ac.length x.ca,.slice (some ⟨x.gi,0,none⟩) x.b.ic.length x.ci,.slice (some ⟨x.gb,0,none⟩) x.b.bs.length x.cb,.slice (some ⟨x.gl,0,none⟩) x.b.ls.length x.cl,.slice (some ⟨x.gt,0,none⟩) x.b.ts.length x.ct,.int .i64 x.b.lot]] w fun e w'=>e= .returned (.bool b)∧Below w.heap.size w w':=by
 have T:=zh (show Says (!b) (∃t∈x.b.ts,unfitB x.b t=true) from by
  cases b
  ·refine⟨fun _=>?_,fun _=>rfl⟩
   have:=hb.no
   refine Classical.byContradiction fun hn=>this fun k hk=>?_
   refine(unfit_says x.b (el8 x.b.ts k)).1 ?_
   cases e:unfitB x.b (el8 x.b.ts k)
   ·rfl
   ·exact absurd ⟨_,Tup8.getD_mem hk,e⟩ hn
  ·refine⟨fun e=>Bool.noConfusion e,fun⟨t,ht,e⟩=>?_⟩
   obtain⟨k,hk,rfl⟩:=Tup8.mem_getD ht
   have:=(unfit_says x.b (el8 x.b.ts k)).2 (hb.yes k hk)
   rw[e] at this
   cases this)
 have LA:=zh hl.1
 have LI:=zh hl.2.1
 have S0:=zh (St.start h 40)
 have nt:=h.nt
 have lt:=h.lt
 clear hb hl h
 go_enter Tryz.func159,Tryz.ntmps159
 go_wp2_with fail
 refine(iContainsF8 _ x.gt _ x.ct 173 #[.pointer (some ⟨w.heap.size,0,none⟩)] x.b.ts (unfitB x.b) (!b) rfl nt (by simp;omega) (zu S0).r.rt (fun _ _=>enters Tryz.func173 (by kernel_rfl) rfl _ _) (fun u y bu=>iUnfit u x w.heap.size y ((zu S0).r.below bu) (Nat.lt_of_lt_of_le (zu S0).s bu.size) ((zu S0).c.below bu (by simp)) (zu LA) (zu LI)) (zu T)).mono ?_
 rintro e w1 ⟨rfl,b1⟩
 have B1:=zh ((zu S0).step b1).b
 clear b1
 go_wp2
 go_ret
 exact⟨by simp,zu B1⟩
end ITradesFit
namespace VOB
open ByteH (Own At)
def Ob(w:World)(base:Nat)(a:Option Addr)(n cap:Nat)(xs:List Int):Prop:=w.ownsRow base 5 1 (.slice a n cap) n (xs.map (Value.int .u8))
theorem Ob.of{w:World}{base g n cap:Nat}{xs:List Int}(h:Own w base g n cap xs):Ob w base (some ⟨g,0,none⟩) n cap xs:=h
theorem Ob.nil(w:World)(base:Nat):Ob w base none 0 0 []:=World.ownsRow_nil w base _ _
section
variable {w w':World} {base n cap:Nat} {a:Option Addr} {xs:List Int}
theorem Ob.len(h:Ob w base a n cap xs):xs.length=n:=by have:=h.1;simpa using this
theorem Ob.either(h:Ob w base a n cap xs):(a=none∧n=0∧xs=[])∨∃g,a=some ⟨g,0,none⟩∧Own w base g n cap xs:=by
 have hl:=h.len
 rcases h.2 with⟨h1,_⟩|⟨g,c,cur,h1,_⟩
 ·have:a=none∧n=0∧cap=0:=by simpa using h1
  obtain⟨rfl,rfl,rfl⟩:=this
  exact .inl ⟨rfl,rfl,List.eq_nil_of_length_eq_zero hl⟩
 ·have:a=some ⟨g,0,none⟩∧cap=c:=by simpa using h1
  obtain⟨rfl,rfl⟩:=this
  exact .inr ⟨g,rfl,h⟩
def Btw(lo hi:Nat)(a:Option Addr):Prop:=∀x,a=some x→lo≤x.block∧x.block<hi
theorem Ob.btw(h:Ob w base a n cap xs):Btw base w.heap.size a:=by
 intro x hx
 rcases h.either with⟨rfl,_⟩|⟨g,rfl,o⟩
 ·cases hx
 ·cases hx;exact o.lt
theorem Btw.mono{lo hi lo' hi':Nat}(h:Btw lo hi a)(h1:lo'≤lo)(h2:hi≤hi'):Btw lo' hi' a:=fun x hx=>⟨Nat.le_trans h1 (h x hx).1,Nat.lt_of_lt_of_le (h x hx).2 h2⟩
theorem Ob.mono{base':Nat}(h:Ob w base a n cap xs)(hb:base'≤base):Ob w base' a n cap xs:=by
 rcases h.either with⟨rfl,rfl,rfl⟩|⟨g,rfl,o⟩
 ·refine⟨h.1,?_⟩
  rcases h.2 with h|⟨g,c,cur,h1,_⟩
  ·exact .inl h
  ·simp at h1
 ·exact o.mono hb
theorem Ob.below{B:Nat}(h:Ob w base a n cap xs)(k:Below B w w')(hb:Btw 0 B a):Ob w' base a n cap xs:=by
 rcases h.either with⟨rfl,rfl,rfl⟩|⟨g,rfl,o⟩
 ·refine⟨h.1,?_⟩
  rcases h.2 with h|⟨g,c,cur,h1,_⟩
  ·exact .inl h
  ·simp at h1
 ·exact o.below k (hb _ rfl).2
theorem Ob.step(h:Ob w base a n cap xs)(k:Below w.heap.size w w'):Ob w' base a n cap xs:=h.below k (h.btw.mono (Nat.zero_le _) (Nat.le_refl _))
theorem Ob.kept{row:Option Nat}(h:Ob w base a n cap xs)(k:w.grownBy w' row)(hr:∀x,a=some x→some x.block≠row):Ob w' base a n cap xs:=by
 rcases h.either with⟨rfl,rfl,rfl⟩|⟨g,rfl,o⟩
 ·refine⟨h.1,?_⟩
  rcases h.2 with h|⟨g,c,cur,h1,_⟩
  ·exact .inl h
  ·simp at h1
 ·exact o.kept k (hr _ rfl)
end
def Rd(w:World)(a:Option Addr)(xs:List Int):Prop:=xs=[]∨∃g,a=some ⟨g,0,none⟩∧g<w.heap.size∧At w g xs
theorem Ob.rd{w:World}{base n cap:Nat}{a:Option Addr}{xs:List Int}(h:Ob w base a n cap xs):Rd w a xs:=by
 rcases h.either with⟨rfl,rfl,rfl⟩|⟨g,rfl,o⟩
 ·exact .inl rfl
 ·exact .inr ⟨g,rfl,o.lt.2,o.at⟩
theorem Rd.below{w w':World}{a:Option Addr}{xs:List Int}(h:Rd w a xs)(k:Below w.heap.size w w'):Rd w' a xs:=by
 rcases h with h|⟨g,e,hl,hc⟩
 ·exact .inl h
 ·exact .inr ⟨g,e,Nat.lt_of_lt_of_le hl k.size,hc.below k hl⟩
end VOB
namespace IPuts11
open SBytes SPut11 SPuts11
open ByteH (Own At)
theorem iForm(w:World)(base g0 c0 n0:Nat)(p0:List Int)(x0:Int)(h0:0≤x0)(hx:x0≤9223372036854775807)(hn:n0≤100000000)(hb:base≤w.heap.size)(ho:Own w base g0 n0 c0 p0):
  Calls Tryz.prog 110 #[.slice (some ⟨g0,0,none⟩) n0 c0,.int .i64 x0] w fun e w'=>∃g c,e= .returned (.slice (some ⟨g,0,none⟩) (n0+(numF x0.toNat).length) c)∧Own w' base g (n0+(numF x0.toNat).length) c (p0++numF x0.toNat)∧Below base w w':=by
 have O0:=zh (show Own w base g0 (n0+([]:List Int).length) c0 (p0++[]) from by simpa using ho)
 have B0:=zh (Below.refl base w)
 have L:=zh (numF_nine (x:=x0.toNat) (by omega))
 obtain⟨r,hr⟩:∃r,Hid (numF x0.toNat=r):=⟨_,rfl⟩
 rw[zu hr] at L⊢
 have S0:=zh (show([]:List Int)++numF x0.toNat=r from zu hr)
 clear hr ho
 go_enter Tryz.func110,Tryz.ntmps110
 go_wp2
 go_loopw [0,1] (fun l a wr=>∃(x:Int) (p:List Int) (g c n:Nat),a= .int .i64 x∧l= .slice (some ⟨g,0,none⟩) n c∧n=n0+p.length∧0≤x∧x≤9223372036854775807∧Hid (p++numF x.toNat=r)∧Hid (Own wr base g n c (p0++p))∧Hid (Below base w wr)) (fun _ a _=>(intOf a).toNat)
 case atStart=>exact⟨x0,[],g0,c0,n0,rfl,rfl,by simp,h0,hx,S0,O0,B0⟩
 case round=>
  clear O0 B0 S0 hx h0
  obtain⟨x,p,g,c,n,rfl,rfl,hnp,x1,x2,HR,HO,HB⟩:=hrel
  have bs:=(zu HB).size
  have pl:p.length≤9:=by have a:=zu L;rw[←zu HR] at a;simp at a;omega
  have nl:n≤100000009:=by omega
  have HN:=zh hnp
  have og:=(zu HO).lt
  have HX:=zh (And.intro x1 x2)
  clear hnp
  by_cases t:127<x
  ·have N:=zh (show(p++[x%128+128])++numF (x/128).toNat=r from by
    rw[←zu HR,numF_more (x:=x.toNat) (by omega),List.append_assoc]
    have e1:((x.toNat%128+128:Nat):Int)=x%128+128:=by omega
    have e2:x.toNat/128=(x/128).toNat:=by omega
    rw[e1,e2];rfl)
   clear HR x1 x2
   go_wp2_with (first|(at_builtin;refine wp_catB _ rfl _ _ rfl base g n c 1 (p0++p) [x%128+128] wr.heap.size 0 1 rfl rfl (own_alloc (zu HO) _) rfl (lit_one _ _) (by omega) (by simp;omega) ?_)|go_in)
   intro g5 c5 w5 o5 gr5 loc5
   have O5:=zh o5
   have B5:=zh (((zu HB).alloc (by omega) (.cells #[.int .u8 (x%128+128)] 5)).grown gr5 (by simp;omega) (fun j hj=>by cases hj;exact og.1))
   clear o5 gr5 loc5
   go_wp2
   go_roundw
   case rel=>
    have xx:=zu HX
    exact⟨x/128,p++[x%128+128],g5,c5,n+1,by simp,rfl,by have:=zu HN;simp;omega,by omega,by omega,N,O5,B5⟩
   case measure=>
    have xx:=zu HX
    simp[intOf]
    omega
  ·have N:=zh (show p++[x]=r from by
    rw[←zu HR,numF_last (x:=x.toNat) (by omega)]
    have e1:((x.toNat:Nat):Int)=x:=by omega
    rw[e1])
   clear HR
   go_wp2_with (first|(at_builtin;refine wp_catB _ rfl _ _ rfl base g n c 1 (p0++p) [x] wr.heap.size 0 1 rfl rfl (own_alloc (zu HO) _) rfl (lit_one _ _) (by omega) (by simp;omega) ?_)|go_in)
   intro g5 c5 w5 o5 gr5 loc5
   have O5:=zh o5
   have B5:=zh (((zu HB).alloc (by omega) (.cells #[.int .u8 x] 5)).grown gr5 (by simp;omega) (fun j hj=>by cases hj;exact og.1))
   clear o5 gr5 loc5
   go_wp2
   go_ret
   have e:=zu N
   have e1:n0+r.length=n+1:=by rw[←e,zu HN];simp;omega
   exact⟨g5,c5,by rw[e1];rfl,by rw[e1,←e];exact zu O5,zu B5⟩
theorem iPutNums(w:World)(gl cl:Nat)(xs:List Int)(h20:xs.length≤1048576)(hg:gl<w.heap.size)(hr:Ints.At w gl xs)(hi:∀i,i<xs.length→xs.getD i 0≤9223372036854775807):
  Calls Tryz.prog 68 #[.slice (some ⟨gl,0,none⟩) xs.length cl] w fun e w'=>∃a c,e= .returned (.slice a (numsB xs).length c)∧VOB.Ob w' w.heap.size a (numsB xs).length c (numsB xs)∧Below w.heap.size w w':=by
 have O0:=zh (lit0 w w.heap.size (Nat.le_refl _) rfl)
 have B0:=zh (one_more w (.cells #[] 5))
 have R:=zh hr
 have HI:=zh hi
 have HG:=zh hg
 obtain⟨r,hq⟩:∃r,Hid (numsB xs=r):=⟨_,rfl⟩
 rw[zu hq]
 clear hr hi hg
 go_enter Tryz.func68,Tryz.ntmps68
 go_wp2
 go_loopw [3,5,9] (fun l _ a wr=>∃(k g c n:Nat),a= .int .i64 k∧k≤xs.length∧l= .slice (some ⟨g,0,none⟩) n c∧n≤9*k∧Hid (n=((xs.take k).flatMap numB).length)∧Hid (∀i,i<k→0≤xs.getD i 0)∧Hid (Own wr w.heap.size g n c ((xs.take k).flatMap numB))∧Hid (Below w.heap.size w wr)) (fun _ _ a _=>xs.length-(intOf a).toNat)
 case atStart=>exact⟨0,w.heap.size,0,0,rfl,by omega,rfl,by omega,zh (by simp),zh (fun i h=>absurd h (by omega)),zh (by simpa using zu O0),B0⟩
 case round=>
  clear O0 B0
  obtain⟨k,g,c,n,rfl,hk,rfl,nk,HN,HP,HO,HB⟩:=hrel
  have bs:=(zu HB).size
  by_cases t:k<xs.length
  ·have d:=(((zu R).below (zu HB) (zu HG)) k t)
   have NX:=zh (flat_next t)
   have HX:=zh ((zu HI) k t)
   have SG:=zh (show 0≤xs.getD k 0→∀i,i<k+1→0≤xs.getD i 0 from fun h i hi=>by
    by_cases e:i=k
    ·subst e;exact h
    ·exact(zu HP) i (by omega))
   have BAD:=zh (show xs.getD k 0<0→r=[] from fun h=>by rw[←zu hq];exact if_neg (fun a=>by have:=a k t;omega))
   clear HP
   generalize xs.getD k 0=y at *
   have kx:(k:Int)<xs.length:=by omega
   by_cases y0:y<0
   ·have e:=(zu BAD) y0
    subst e
    have O5:=zh (lit0 wr w.heap.size bs rfl)
    have B5:=zh ((zu HB).alloc bs (.cells #[] 5))
    clear BAD SG NX HX hq HI R
    go_wp2
    go_ret
    exact⟨_,0,rfl,.of (zu O5),zu B5⟩
   ·have S1:=zh ((zu SG) (by omega))
    have NB:=zh (numB_pos (x:=y) (by omega))
    have nine:=numB_nine (zu HX)
    rw[zu NB] at nine
    have y1:0≤y:=by omega
    have FM:=zh (iForm wr w.heap.size g c n _ y y1 (zu HX) (by omega) bs (zu HO))
    clear BAD SG
    go_wp2_with fail
    refine(zu FM).mono ?_
    rintro e u ⟨g5,c5,rfl,o5,b5⟩
    have O5:=zh o5
    have B5:=zh ((zu HB).trans b5)
    clear o5 b5 FM HO
    go_wp2
    go_roundw
    case rel=>exact⟨k+1,g5,c5,n+(numF y.toNat).length,by go_num,by omega,rfl,by omega,zh (by rw[zu NX,List.length_append,←zu HN,zu NB]),S1,zh (by rw[zu NX,zu NB];exact zu O5),B5⟩
    case measure=>simp[intOf];omega
  ·have e:k=xs.length:=by omega
   subst e
   have E:=zh (show xs.flatMap numB=r from by rw[←zu hq];exact(if_pos (zu HP)).symm)
   have N:=zu HN
   have O:=zu HO
   rw[List.take_length] at N O
   rw[zu E] at N O
   have O5:=zh O
   have N5:=zh N
   clear N O HN HO HP
   go_wp2
   go_ret
   have e:=zu N5
   subst e
   exact⟨_,c,rfl,.of (zu O5),zu HB⟩
end IPuts11
namespace IPut11
open SBytes SPut11 SPuts11
theorem nums_one(x:Int):numsB [x]=numB x:=by
 unfold numsB
 by_cases h:x<0
 ·rw[if_neg (fun a=>by have:=a 0 (by simp);simp at this;omega)]
  exact(if_pos h).symm
 ·rw[if_pos (fun i hi=>by
   have:i=0:=by simpa using hi
   subst this
   simp
   omega)]
  simp
theorem Ob.rebase{w:World}{base base' n cap:Nat}{a:Option Addr}{xs:List Int}(h:VOB.Ob w base a n cap xs)(hb:base'≤base):VOB.Ob w base' a n cap xs:=h.mono hb
theorem iPutNum(w:World)(x:Int)(hx:x≤9223372036854775807):
  Calls Tryz.prog 31 #[.int .i64 x] w fun e w'=>∃a c,e= .returned (.slice a (numB x).length c)∧VOB.Ob w' w.heap.size a (numB x).length c (numB x)∧Below w.heap.size w w':=by
 have B0:=zh (one_more w (.cells #[.int .i64 x] 3))
 have M:=zh (IPuts11.iPutNums (w.alloc (.cells #[.int .i64 x] 3)) w.heap.size 1 [x] (by simp) (by simp) (fun i hi=>by
  have:i=0:=by simpa using hi
  subst this
  simp) (fun i hi=>by
  have:i=0:=by simpa using hi
  subst this
  simpa using hx))
 rw[nums_one] at M
 generalize numB x=ws at *
 generalize hn:ws.length=nw at *
 have NW:=zh hn
 clear hn
 go_enter Tryz.func31,Tryz.ntmps31
 go_wp2_with fail
 refine(zu M).mono ?_
 rintro e u ⟨a,c,rfl,o,b⟩
 have O:=zh o
 have B:=zh ((zu B0).trans (b.mono (by simp)))
 clear o b M B0
 go_wp2
 go_ret
 exact⟨a,c,rfl,(zu O).mono (by simp),zu B⟩
end IPut11
namespace ICheck11
open SBytes
def AtBO(w:World)(g o:Nat)(xs:List Int):Prop:=∀i,i<xs.length→w.cell? ⟨g,o+i,none⟩=some (.int .u8 (xs.getD i 0))∧0≤xs.getD i 0∧xs.getD i 0≤255
theorem AtBO.of{w:World}{g:Nat}{xs:List Int}(h:AtB w g xs):AtBO w g 0 xs:=fun i hi=>by rw[Nat.zero_add];exact h i hi
theorem AtBO.below{w w':World}{g o B:Nat}{xs:List Int}(h:AtBO w g o xs)(k:Below B w w')(hg:g<B):AtBO w' g o xs:=fun i hi=>⟨(k.cell (p:=⟨g,o+i,none⟩) hg).trans (h i hi).1,(h i hi).2⟩
theorem iCheckO(w:World)(g o cap:Nat)(xs:List Int)(h20:xs.length≤1048576)(hr:AtBO w g o xs):
  Calls Tryz.prog 109 #[.slice (some ⟨g,o,none⟩) xs.length cap] w fun e w'=>e= .returned (.int .i64 (65536*(chk xs xs.length).2+(chk xs xs.length).1))∧w'=w:=by
 have R:=zh hr
 clear hr
 go_enter Tryz.func109,Tryz.ntmps109
 go_wp2
 go_loopw [3,4,6,9] (fun a b _ i wr=>∃(k:Nat) (x y:Int),k≤xs.length∧i= .int .i64 k∧a= .int .i64 x∧b= .int .i64 y∧Hid ((x,y)=chk xs k)∧wr=w) (fun _ _ _ i _=>xs.length-(intOf i).toNat)
 case atStart=>exact⟨0,0,0,by omega,rfl,rfl,rfl,rfl,rfl⟩
 case round=>
  obtain⟨k,x,y,hk,rfl,rfl,rfl,HC,rfl⟩:=hrel
  have q:=chk_in xs k
  rw[←zu HC] at q
  obtain⟨q0,q1,q2,q3⟩:=q
  simp only at q0 q1 q2 q3
  by_cases t:k<xs.length
  ·obtain⟨d,d0,d1⟩:=(zu R) k t
   have N:=zh (show((x+xs.getD k 0+1)%65535,(y+(x+xs.getD k 0+1)%65535)%65535)=chk xs (k+1) from by simp only[chk];rw[←zu HC];rfl)
   clear HC
   generalize xs.getD k 0=v at *
   have a1:wrap64 (x+v)=x+v:=by rw[wrap64];omega
   have a2:wrap64 (x+v+1)=x+v+1:=by rw[wrap64];omega
   have a3:(x+v+1).tmod 65535=(x+v+1)%65535:=tmod_pos _ (by omega)
   have m1:0≤(x+v+1)%65535∧(x+v+1)%65535<65535:=by omega
   generalize (x+v+1)%65535=m at *
   have a4:wrap64 m=m:=by rw[wrap64];omega
   have a5:wrap64 (y+m)=y+m:=by rw[wrap64];omega
   have a6:(y+m).tmod 65535=(y+m)%65535:=tmod_pos _ (by omega)
   have m2:0≤(y+m)%65535∧(y+m)%65535<65535:=by omega
   generalize (y+m)%65535=n at *
   have a7:wrap64 n=n:=by rw[wrap64];omega
   have a8:wrap64 v=v:=by rw[wrap64];omega
   go_wp2
   go_roundw
   case rel=>exact⟨k+1,m,n,by omega,by go_num,by simp[a1,a2,a3,a4],by simp[a1,a2,a3,a4,a5,a6,a7],N,trivial⟩
   case measure=>simp[intOf];omega
  ·have e:k=xs.length:=by omega
   subst e
   have a1:wrap64 (65536*y)=65536*y:=by rw[wrap64];omega
   have a2:wrap64 (65536*y+x)=65536*y+x:=by rw[wrap64];omega
   have c1:x=(chk xs xs.length).1:=congrArg Prod.fst (zu HC)
   have c2:y=(chk xs xs.length).2:=congrArg Prod.snd (zu HC)
   have C1:=zh c1
   have C2:=zh c2
   clear c1 c2
   go_wp2
   go_ret
   exact⟨by rw[←zu C1,←zu C2];simp[a1,a2],rfl⟩
end ICheck11
namespace ISum11
open SBytes SPut11
theorem chkB_in(xs:List Int):0≤chkB xs∧chkB xs≤4294967295:=by
 have:=chk_in xs xs.length
 unfold chkB
 omega
def laid(n:Int)(k:Nat):Array Value:= #[.int .u8 (if 0<k then n%256 else 0),.int .u8 (if 1<k then n/256%256 else 0),.int .u8 (if 2<k then n/65536%256 else 0),.int .u8 (if 3<k then n/16777216%256 else 0)]
theorem iSum(w:World)(gl o cl:Nat)(xs:List Int)(h20:xs.length≤1048576)(hg:gl<w.heap.size)(hr:ICheck11.AtBO w gl o xs):
  Calls Tryz.prog 66 #[.slice (some ⟨gl,o,none⟩) xs.length cl] w fun e w'=>e= .returned (.agg #[.int .u8 (chkB xs%256),.int .u8 (chkB xs/256%256),.int .u8 (chkB xs/65536%256),.int .u8 (chkB xs/16777216%256)])∧Below w.heap.size w w':=by
 have CK:=zh (fun u h=>ICheck11.iCheckO u gl o cl xs h20 h)
 have R:=zh hr
 have CI:=zh (show 0≤65536*(chk xs xs.length).2+(chk xs xs.length).1∧65536*(chk xs xs.length).2+(chk xs xs.length).1≤4294967295 from chkB_in xs)
 have E:=zh (show chkB xs=65536*(chk xs xs.length).2+(chk xs xs.length).1 from rfl)
 rw[zu E]
 clear hr E
 generalize 65536*(chk xs xs.length).2+(chk xs xs.length).1=n at *
 obtain⟨n0,n1⟩:=zu CI
 go_enter Tryz.func66,Tryz.ntmps66
 go_wp2_with fail
 refine((zu CK) _ ((zu R).below (one_more _ _) hg)).mono ?_
 rintro e u ⟨rfl,rfl⟩
 go_wp2
 go_loopw [5,9] (fun _ i wr=>∃k:Nat,k≤4∧i= .int .i64 k∧wr=(w.alloc (.cells #[.int .u8 0,.int .u8 0,.int .u8 0,.int .u8 0] 107)).alloc (.cells (laid n k) 107)) (fun _ i _=>4-(intOf i).toNat)
 case atStart=>exact⟨0,by omega,rfl,rfl⟩
 case round=>
  obtain⟨k,hk,rfl,rfl⟩:=hrel
  have:k=0∨k=1∨k=2∨k=3∨k=4:=by omega
  rcases this with rfl|rfl|rfl|rfl|rfl
  ·simp only[laid]
   go_wp2
   go_roundw
   case rel=>exact⟨1,by omega,rfl,by first|rfl|simp⟩
   case measure=>simp[intOf]
  ·simp only[laid]
   go_wp2
   go_roundw
   case rel=>exact⟨2,by omega,rfl,by first|rfl|simp⟩
   case measure=>simp[intOf]
  ·simp only[laid]
   go_wp2
   go_roundw
   case rel=>exact⟨3,by omega,rfl,by first|rfl|simp⟩
   case measure=>simp[intOf]
  ·simp only[laid]
   go_wp2
   go_roundw
   case rel=>exact⟨4,by omega,rfl,by
    have e:n/16777216%256=n/16777216:=by omega
    simp[e]⟩
   case measure=>simp[intOf]
  ·simp only[laid]
   go_wp2
   go_returns
   exact⟨rfl,(one_more _ _).trans ((Below.refl _ _).alloc (by simp) _)⟩
end ISum11
namespace ConB11
open SBytes SPut11
open ByteH (Own At info8)
def OwnV(w:World)(base:Nat)(v:Value)(xs:List Int):Prop:=w.ownsRow base 5 1 v xs.length (xs.map (Value.int .u8))
theorem OwnV.nil(w:World)(base:Nat):OwnV w base (.slice none 0 0) []:=⟨rfl,.inl ⟨rfl,rfl⟩⟩
theorem OwnV.lt{w:World}{base:Nat}{v:Value}{xs:List Int}(h:OwnV w base v xs):∀g,v.ownBlock=some g→base≤g∧g<w.heap.size:=fun g hg=>World.ownsRow.lt h g hg
theorem OwnV.ob{w:World}{base:Nat}{v:Value}{xs:List Int}(h:OwnV w base v xs):∃a c,v= .slice a xs.length c∧VOB.Ob w base a xs.length c xs:=by
 have h':=h
 rcases h.2 with⟨rfl,h2⟩|⟨g,c,cur,rfl,_⟩
 ·obtain rfl:xs=[]:=List.eq_nil_of_length_eq_zero h2
  exact⟨none,0,rfl,h'⟩
 ·exact⟨_,c,rfl,h'⟩
theorem AtO.below{w w':World}{g o B:Nat}{xs:List Int}(h:AtO w g o xs)(k:Below B w w')(hg:g<B):AtO w' g o xs:=fun i hi=>(k.cell (p:=⟨g,o+i,none⟩) hg).trans (h i hi)
theorem wp_catV(u:World){ops:Array Oper}{rest:List Oper}{o:Oper}{a:Act}{Q:Exit→Act→World→Prop}(hgd:o.guard=none)(s x:Operand)
  (ho:o.op= .call {callee:= .builtin .append,args:= #[s,x],argTypes:= #[63,63]})(base m:Nat)(v:Value)(ps qs:List Int)(vb off c:Nat)
  (hs:a.eval s=v)(hx:a.eval x= .slice (some ⟨vb,off,none⟩) m c)(hown:OwnV u base v ps)(hl:qs.length=m)(hv:AtO u vb off qs)(hn:ps.length+m≤1048576)(hb:base≤u.heap.size)
  (h:∀v' w',OwnV w' base v' (ps++qs)→u.grownBy w' v.ownBlock→(v'.ownBlock=v.ownBlock∨v'.ownBlock=some u.heap.size)→wpList Tryz.prog ops Q rest (a.put o.dst v') w'):wpList Tryz.prog ops Q (o::rest) a u:=by
 obtain⟨i0,hi,hz0,hz1,hz2⟩:=info_parts info8
 refine wpList_append_own_at u hgd s x 63 ho base 5 i0 (.int .u8 0) 1 1 Tryz.underlying63 hi hz0 hz1 hz2 rfl (by decide) v ps.length _ hs hown ⟨vb,off,none⟩ m c (qs.map (Value.int .u8)) hx (by simp[hl]) (fun j v hj=>by
  have hj':j<qs.length:=by
   have:=(List.getElem?_eq_some_iff.1 hj).1
   simpa using this
  have:=hv j hj'
  rw[Addr.add_lit,this]
  rw[←hj]
  simp[List.getD,hj']) (by intro u hu;obtain⟨y,_,rfl⟩:=List.mem_map.1 hu;simp[Value.oneCell']) (by unfold maxLen;omega) (by omega) hb ?_
 intro v' w' own' gr' nil' loc'
 refine h v' w' ?_ gr' loc'
 unfold OwnV
 rw[List.map_append,List.length_append,hl]
 exact own'
theorem grow_none(w:World):Calls Tryz.prog 67 #[.slice none 0 0,.int .i64 0] w fun e w'=>e= .returned (.slice none 0 0)∧Below w.heap.size w w':=by
 go_enter Tryz.func67,Tryz.ntmps67
 go_wp2
 go_ret
 exact⟨rfl,Below.refl _ _⟩
theorem grow_some(w:World)(k:Nat)(h0:0<k)(h20:k≤1048576):Calls Tryz.prog 67 #[.slice none 0 0,.int .i64 k] w fun e w'=>∃v,e= .returned v∧OwnV w' w.heap.size v []∧Below w.heap.size w w':=by
 obtain⟨i0,hi,hz0,hz1,hz2⟩:=info_parts info8
 have kp:(0:Int)<(k:Int):=by omega
 have hold:(Builtin.firstCells i0.size 0 (.slice none 0 0)).run Tryz.prog w.drew= .ok ([]:List Value).toArray w.drew:=run_firstCells_none _ _ _ _ _
 obtain⟨G,hG⟩:∃G,G=grownCap w k 0 5:=⟨_,rfl⟩
 have hG1:k≤G:=by rw[hG];exact grownCap_ge w _ _ _
 have hG2:G≤maxLen:=by rw[hG];exact grownCap_le_maxLen w _ _ _ (by unfold maxLen;omega)
 obtain⟨ROW,hROW⟩:∃ROW:Array Value,ROW=([]:List Value).toArray++Builtin.zeroCells (Value.int .u8 0).cells k++Builtin.zeroCells (Value.int .u8 0).cells (G-k):=⟨_,rfl⟩
 have hrz:∀ty,(Builtin.append_ #[63,3] ty #[.slice none 0 0,.int .i64 (k:Int)]).run Tryz.prog w= .ok (.slice (some ⟨w.heap.size,0,none⟩) k G) (w.drew.alloc (.cells ROW 5)):=fun ty=>by
  have h:=Lib.run_append_grow_zeros w 63 3 ty 5 i0 _ .i64 .i64 Tryz.underlying63 Tryz.underlying3 hi hz0 none 0 0 [] hold k h0 (by rw[hz1];decide) (by omega) (by omega) (by rw[hz2];omega) (by rw[hz2];exact growslice_fits (by omega) (by omega))
  rw[Nat.zero_add,←hG,←hROW] at h
  exact h
 have hRs:ROW.size=G*1:=by
  rw[hROW]
  simp[Builtin.zeroCells,Value.cells]
  try omega
 have OV:=zh (show OwnV (w.drew.alloc (.cells ROW 5)) w.heap.size (.slice (some ⟨w.heap.size,0,none⟩) 0 G) [] from⟨rfl,.inr ⟨w.heap.size,G,ROW,rfl,Nat.le_refl _,heap_alloc_new w.drew _,Nat.zero_le _,hG2,hRs,by simp⟩⟩)
 have BB:=zh (show Below w.heap.size w (w.drew.alloc (.cells ROW 5)) from(Below.refl _ _).drew.alloc (Nat.le_refl _) _)
 have G63:(G:Int)≤9223372036854775807:=by unfold maxLen at hG2;omega
 clear hold hROW hRs hG hi hz0 hz1 hz2
 go_enter Tryz.func67,Tryz.ntmps67
 go_wp2_with (first|(at_builtin;refine Lib.wpList_append_run _ rfl _ _ _ _ rfl _ _ rfl rfl _ _ (hrz _) ?_)|go_in)
 go_ret
 exact⟨_,rfl,zu OV,zu BB⟩
theorem iConcat(w:World)(b g1 o1 n1 c1 g2 o2 n2 c2 g3 o3 n3 c3:Nat)(p1 p2 p3:List Int)(l1:p1.length=n1)(l2:p2.length=n2)(l3:p3.length=n3)(h20:n1+n2+n3≤1048576)
  (hb:b<w.heap.size)(q1:g1<w.heap.size)(q2:g2<w.heap.size)(q3:g3<w.heap.size)(a1:AtO w g1 o1 p1)(a2:AtO w g2 o2 p2)(a3:AtO w g3 o3 p3)
  (s1:w.cell? ⟨b,0,none⟩=some (.slice (some ⟨g1,o1,none⟩) n1 c1))(s2:w.cell? ⟨b,1,none⟩=some (.slice (some ⟨g2,o2,none⟩) n2 c2))(s3:w.cell? ⟨b,2,none⟩=some (.slice (some ⟨g3,o3,none⟩) n3 c3)):
  Calls Tryz.prog 30 #[.slice (some ⟨b,0,none⟩) 3 3] w fun e w'=>∃v,e= .returned v∧OwnV w' w.heap.size v (p1++(p2++p3))∧Below w.heap.size w w':=by
 have A1:=zh a1
 have A2:=zh a2
 have A3:=zh a3
 clear a1 a2 a3
 go_enter Tryz.func30,Tryz.ntmps30
 go_wp2
 go_loop [3,5,11] (fun q _ j=>∃(k:Nat) (z:Int),j= .int .i64 k∧q= .int .i64 z∧((k=0∧z=0)∨(k=1∧z=(n1:Int))∨(k=2∧z=(n1:Int)+(n2:Int))∨(k=3∧z=(n1:Int)+(n2:Int)+(n3:Int)))) (fun _ _ j=>3-(intOf j).toNat)
 case atStart=>exact⟨0,0,rfl,rfl,.inl ⟨rfl,rfl⟩⟩
 case round=>
  obtain⟨k,z,rfl,rfl,hk⟩:=hrel
  rcases hk with⟨rfl,rfl⟩|⟨rfl,rfl⟩|⟨rfl,rfl⟩|⟨rfl,rfl⟩
  ·go_wp2
   go_round
   case rel=>exact⟨1,(n1:Int),by go_num,by go_num,.inr (.inl ⟨rfl,rfl⟩)⟩
   case measure=>simp[intOf]
  ·go_wp2
   go_round
   case rel=>exact⟨2,(n1:Int)+(n2:Int),by go_num,by go_num,.inr (.inr (.inl ⟨rfl,rfl⟩))⟩
   case measure=>simp[intOf]
  ·go_wp2
   go_round
   case rel=>exact⟨3,(n1:Int)+(n2:Int)+(n3:Int),by go_num,by go_num,.inr (.inr (.inr ⟨rfl,rfl⟩))⟩
   case measure=>simp[intOf]
  ·have GR:=zh (show Calls Tryz.prog 67 #[.slice none 0 0,.int .i64 ((n1:Int)+(n2:Int)+(n3:Int))] w fun e w'=>∃v,e= .returned v∧OwnV w' w.heap.size v []∧Below w.heap.size w w' from by
    by_cases z:n1+n2+n3=0
    ·rw[show(n1:Int)+(n2:Int)+(n3:Int)=0 by omega]
     exact(grow_none w).mono fun _ _ ⟨he,hb⟩=>⟨_,he,OwnV.nil _ _,hb⟩
    ·have:=grow_some w (n1+n2+n3) (by omega) h20
     rw[show((n1+n2+n3:Nat):Int)=(n1:Int)+(n2:Int)+(n3:Int) by omega] at this
     exact this)
   go_wp2_with fail
   refine(zu GR).mono ?_
   rintro e w1 ⟨v,rfl,ov,b1⟩
   have OV:=zh ov
   have B1:=zh b1
   clear ov b1 GR
   go_wp2
   go_loopw [6,8,27] (fun x _ j wr=>∃(k:Nat) (v:Value) (out:List Int),j= .int .i64 k∧v=x∧Hid (OwnV wr w.heap.size v out)∧Hid (Below w.heap.size w wr)∧((k=0∧out=[])∨(k=1∧p1=out)∨(k=2∧out=p1++p2)∨(k=3∧out=p1++(p2++p3)))) (fun _ _ j _=>3-(intOf j).toNat)
   case atStart=>exact⟨0,v,[],rfl,rfl,OV,B1,.inl ⟨rfl,rfl⟩⟩
   case round=>
   clear OV B1
   obtain⟨k,v,out,rfl,rfl,OV,HB,hk⟩:=hrel
   rcases hk with⟨rfl,rfl⟩|⟨rfl,rfl⟩|⟨rfl,rfl⟩|⟨rfl,rfl⟩
   ·have s:wr.cell? ⟨b,0,none⟩=some (.slice (some ⟨g1,o1,none⟩) n1 c1):=((zu HB).cell (p:=⟨b,0,none⟩) hb).trans s1
    have A:=zh (AtO.below (zu A1) (zu HB) q1)
    have bs:=(zu HB).size
    have LN:=zh (show([]:List Int).length+n1≤1048576 from by(try simp);omega)
    go_wp2_with (first|(at_builtin;refine wp_catV _ rfl _ _ rfl w.heap.size n1 v ([]:List Int) p1 g1 o1 c1 rfl rfl (zu OV) l1 (zu A) (zu LN) bs ?_)|go_in)
    intro v5 w5 ov5 gr5 loc5
    have O5:=zh (show OwnV w5 w.heap.size v5 (p1) from by have:=ov5;exact this)
    have B5:=zh ((zu HB).grown gr5 bs (fun j hj=>((zu OV).lt j hj).1))
    clear ov5 gr5 loc5 A s
    go_wp2
    go_roundw
    case rel=>exact⟨1,v5,p1,by go_num,rfl,O5,B5,.inr (.inl ⟨rfl,rfl⟩)⟩
    case measure=>simp[intOf]
   ·have s:wr.cell? ⟨b,1,none⟩=some (.slice (some ⟨g2,o2,none⟩) n2 c2):=((zu HB).cell (p:=⟨b,1,none⟩) hb).trans s2
    have A:=zh (AtO.below (zu A2) (zu HB) q2)
    have bs:=(zu HB).size
    have LN:=zh (show(p1).length+n2≤1048576 from by(try simp);omega)
    go_wp2_with (first|(at_builtin;refine wp_catV _ rfl _ _ rfl w.heap.size n2 v (p1) p2 g2 o2 c2 rfl rfl (zu OV) l2 (zu A) (zu LN) bs ?_)|go_in)
    intro v5 w5 ov5 gr5 loc5
    have O5:=zh (show OwnV w5 w.heap.size v5 (p1++p2) from by have:=ov5;exact this)
    have B5:=zh ((zu HB).grown gr5 bs (fun j hj=>((zu OV).lt j hj).1))
    clear ov5 gr5 loc5 A s
    go_wp2
    go_roundw
    case rel=>exact⟨2,v5,p1++p2,by go_num,rfl,O5,B5,.inr (.inr (.inl ⟨rfl,rfl⟩))⟩
    case measure=>simp[intOf]
   ·have s:wr.cell? ⟨b,2,none⟩=some (.slice (some ⟨g3,o3,none⟩) n3 c3):=((zu HB).cell (p:=⟨b,2,none⟩) hb).trans s3
    have A:=zh (AtO.below (zu A3) (zu HB) q3)
    have bs:=(zu HB).size
    have LN:=zh (show(p1++p2).length+n3≤1048576 from by(try simp);omega)
    go_wp2_with (first|(at_builtin;refine wp_catV _ rfl _ _ rfl w.heap.size n3 v (p1++p2) p3 g3 o3 c3 rfl rfl (zu OV) l3 (zu A) (zu LN) bs ?_)|go_in)
    intro v5 w5 ov5 gr5 loc5
    have O5:=zh (show OwnV w5 w.heap.size v5 (p1++(p2++p3)) from by first|exact ov5|(have:=ov5;rw[List.append_assoc] at this;exact this))
    have B5:=zh ((zu HB).grown gr5 bs (fun j hj=>((zu OV).lt j hj).1))
    clear ov5 gr5 loc5 A s
    go_wp2
    go_roundw
    case rel=>exact⟨3,v5,p1++(p2++p3),by go_num,rfl,O5,B5,.inr (.inr (.inr ⟨rfl,rfl⟩))⟩
    case measure=>simp[intOf]
   ·go_wp2
    go_ret
    exact⟨_,rfl,zu OV,zu HB⟩
end ConB11
namespace ISeal11
open SBytes SPut11 SPuts11 SSeal11
open ByteH (Own At)
theorem lit_four(w:World)(a b c d:Int):AtO (w.alloc (.cells #[.int .u8 a,.int .u8 b,.int .u8 c,.int .u8 d] 107)) w.heap.size 0 [a,b,c,d]:=by
 intro i hi
 have:i=0∨i=1∨i=2∨i=3:=by simp at hi;omega
 rcases this with rfl|rfl|rfl|rfl<;>simp
theorem numB_some(n:Nat):(numB n).length≠0:=by
 unfold numB
 rw[if_neg (by omega)]
 by_cases h:127<((n:Int)).toNat
 ·rw[numF_more h];simp
 ·rw[numF_last h];simp
abbrev oS0:Oper:={dst:=some 11,op:=Go.Op.move (Go.Operand.tmp 0),type:=63,pos:= "l11_bytes.go:78",after:= #[],guard:=none}
abbrev oS1:Oper:={dst:=some 12,op:=Go.Op.call {callee:=Go.Callee.builtin Go.Builtin.len,args:= #[Go.Operand.tmp 11],argTypes:= #[63]},type:=3,pos:= "l11_bytes.go:78",after:= #[{on:=0,ground:=Go.Ground.data}],guard:=none}
abbrev oS2:Oper:={dst:=some 13,op:=Go.Op.call {callee:=Go.Callee.value (Go.Operand.func 31),args:= #[Go.Operand.tmp 12],argTypes:= #[3]},type:=63,pos:= "l11_bytes.go:78",after:= #[{on:=1,ground:=Go.Ground.data}],guard:=none}
abbrev oS3:Oper:={dst:=some 14,op:=Go.Op.move (Go.Operand.tmp 0),type:=63,pos:= "l11_bytes.go:78",after:= #[],guard:=none}
abbrev oS4:Oper:={dst:=some 15,op:=Go.Op.slice 107 (Go.Operand.tmp 4) none none none,type:=63,pos:= "l11_bytes.go:78",after:= #[],guard:=none}
abbrev oS5:Oper:={dst:=some 16,op:=Go.Op.buildSlice 109 3 #[(0,Go.Operand.tmp 13),(1,Go.Operand.tmp 14),(2,Go.Operand.tmp 15)],type:=109,pos:= "l11_bytes.go:78",after:= #[{on:=2,ground:=Go.Ground.data},{on:=3,ground:=Go.Ground.data},{on:=4,ground:=Go.Ground.data}],guard:=none}
abbrev oS6:Oper:={dst:=some 17,op:=Go.Op.call {callee:=Go.Callee.value (Go.Operand.func 30),args:= #[Go.Operand.tmp 16],argTypes:= #[109]},type:=63,pos:= "l11_bytes.go:78",after:= #[{on:=5,ground:=Go.Ground.data},{on:=2,ground:=Go.Ground.chain}],guard:=none}
abbrev oS7:Oper:={dst:=some 2,op:=Go.Op.assign (Go.Operand.tmp 17),type:=63,pos:= "l11_bytes.go:78",after:= #[{on:=6,ground:=Go.Ground.data},{on:=6,ground:=Go.Ground.chain},{on:=0,ground:=Go.Ground.phase},{on:=1,ground:=Go.Ground.phase},{on:=2,ground:=Go.Ground.phase},{on:=3,ground:=Go.Ground.phase},{on:=4,ground:=Go.Ground.phase},{on:=5,ground:=Go.Ground.phase},{on:=6,ground:=Go.Ground.phase}],guard:=none}
abbrev oS8:Oper:={dst:=some 3,op:=Go.Op.assign (Go.Operand.const (Go.Value.bool true)),type:=4,pos:= "l11_bytes.go:78",after:= #[{on:=7,ground:=Go.Ground.chain},{on:=0,ground:=Go.Ground.phase},{on:=1,ground:=Go.Ground.phase},{on:=2,ground:=Go.Ground.phase},{on:=3,ground:=Go.Ground.phase},{on:=4,ground:=Go.Ground.phase},{on:=5,ground:=Go.Ground.phase},{on:=6,ground:=Go.Ground.phase},{on:=7,ground:=Go.Ground.phase}],guard:=none}
theorem iSeal(w:World)(gl cl:Nat)(xs:List Int)(h20:xs.length≤1048576)(hg:gl<w.heap.size)(hr:AtB w gl xs):
  Calls Tryz.prog 29 #[.slice (some ⟨gl,0,none⟩) xs.length cl] w fun e w'=>∃a c,e= .returned (.tuple #[.slice a (sealB xs).length c,.bool (decide (xs.length≤9000))])∧VOB.Ob w' w.heap.size a (sealB xs).length c (sealB xs)∧Below w.heap.size w w':=by
 by_cases h0:xs.length≤9000
 case neg=>
  have e:sealB xs=[]:=if_neg h0
  rw[e]
  have O0:=zh (lit0 w w.heap.size (Nat.le_refl _) rfl)
  have B0:=zh (one_more w (.cells #[] 5))
  have h1:(9000:Int)<xs.length:=by omega
  have D:=zh (show decide (xs.length≤9000)=false from by simp;omega)
  rw[zu D]
  clear e h0 hr
  go_enter Tryz.func29,Tryz.ntmps29
  go_wp2
  go_ret2
  exact⟨_,0,rfl,.of (zu O0),zu B0⟩
 have S:=zh (show numB xs.length++xs++four (chkB xs)=sealB xs from(if_pos h0).symm)
 have D:=zh (show decide (xs.length≤9000)=true from by simp;omega)
 rw[zu D]
 have SM:=zh (ISum11.iSum w gl 0 cl xs h20 hg (.of hr))
 have R:=zh hr
 have HG:=zh hg
 have NE:=zh (numB_some xs.length)
 have nine:=numB_nine (x:=xs.length) (by omega)
 have h1:¬(9000:Int)<xs.length:=by omega
 clear hr D
 go_enter Tryz.func29,Tryz.ntmps29
 go_wp2_with fail
 refine(zu SM).mono ?_
 rintro e u ⟨rfl,b1⟩
 have S1:=zh (show numB xs.length++xs++[chkB xs%256,chkB xs/256%256,chkB xs/65536%256,chkB xs/16777216%256]=sealB xs from zu S)
 have us:=b1.size
 have B0:=zh b1
 clear S SM b1
 generalize chkB xs%256=y0 at *
 generalize chkB xs/256%256=y1 at *
 generalize chkB xs/65536%256=y2 at *
 generalize chkB xs/16777216%256=y3 at *
 have R2:=zh (((zu R).below (zu B0) (zu HG)).below (one_more u (.cells #[.int .u8 y0,.int .u8 y1,.int .u8 y2,.int .u8 y3] 107)) (by omega))
 clear h1
 go_wp2
 refine wp_region_held_drew (S:=(fun _=>True)) (by kernel_rfl) trivial (fun hHeld=>?_)
 refine tk 0 oS0 (.slice (some ⟨gl,0,none⟩) xs.length cl) rfl (by kernel_rfl) (fun _ _ _ h=>h) (by rfl) (fun w hSw=>?_) hHeld ?_
 ·(try dsimp only at hSw)
  unfold oS0
  go_simp
 try simp only[oS0,Act.put,zA,zB,zC]
 refine tk 1 oS1 (.int .i64 xs.length) rfl (by kernel_rfl) (fun _ _ _ h=>h) (by rfl) (fun w hSw=>?_) hHeld ?_
 ·(try dsimp only at hSw)
  unfold oS1
  go_simp
 try simp only[oS1,Act.put,zA,zB,zC]
 refine tk 3 oS3 (.slice (some ⟨gl,0,none⟩) xs.length cl) rfl (by kernel_rfl) (fun _ _ _ h=>h) (by rfl) (fun w hSw=>?_) hHeld ?_
 ·(try dsimp only at hSw)
  unfold oS3
  go_simp
 try simp only[oS3,Act.put,zA,zB,zC]
 refine tk 4 oS4 (.slice (some ⟨u.heap.size,0,none⟩) 4 4) rfl (by kernel_rfl) (fun _ _ _ h=>h) (by rfl) (fun w hSw=>?_) hHeld ?_
 ·(try dsimp only at hSw)
  unfold oS4
  go_simp
 try simp only[oS4,Act.put,zA,zB,zC]
 refine wpAnyH_ready (rs:=[2]) (by kernel_rfl) (by simp) ?_
 refine AllReadyH.cons (o:=oS2) rfl (fun K hK=>?_) AllReadyH.nil
 unfold oS2
 go_simp
 go_wp2_with fail
 refine(IPut11.iPutNum _ xs.length (by omega)).mono ?_
 rintro e u1 ⟨a1,c1,rfl,o1,bb⟩
 obtain⟨g1,rfl,q1⟩:∃g,a1=some ⟨g,0,none⟩∧Own u1 u.heap.size g (numB xs.length).length c1 (numB xs.length):=by
  rcases o1.either with⟨_,h,_⟩|⟨g,h,o⟩
  ·exact absurd h (zu NE)
  ·exact⟨g,h,o.mono (by simp[World.drew])⟩
 have B1:=zh (show Below (u.heap.size+1) (u.alloc (.cells #[.int .u8 y0,.int .u8 y1,.int .u8 y2,.int .u8 y3] 107)) u1 from by
  have h:=bb.mono (B':=u.heap.size+1) (by simp[World.drew])
  exact⟨h.os,h.tape,h.output,h.size,h.block⟩)
 have O1:=zh q1
 have us1:=bb.size
 rw[show(u.alloc (.cells #[.int .u8 y0,.int .u8 y1,.int .u8 y2,.int .u8 y3] 107)).drew.heap.size=u.heap.size+1 by simp[World.drew]] at us1
 clear bb o1 q1
 go_wp2_with fail
 refine hK.out _ _ trivial (fun hHeld=>?_)
 clear hK K
 try simp only[oS2,Act.put,zA,zB,zC]
 refine wpAnyH_ready (rs:=[5]) (by kernel_rfl) (by simp) ?_
 refine AllReadyH.cons (o:=oS5) rfl (fun K hK=>?_) AllReadyH.nil
 unfold oS5
 go_simp
 refine hK.out _ _ trivial (fun hHeld=>?_)
 clear hK K
 try simp only[oS5,Act.put,zA,zB,zC]
 refine wpAnyH_ready (rs:=[6]) (by kernel_rfl) (by simp) ?_
 refine AllReadyH.cons (o:=oS6) rfl (fun K hK=>?_) AllReadyH.nil
 unfold oS6
 go_simp
 have A1:=zh (own_alloc (zu O1) (.cells #[.slice (some ⟨g1,0,none⟩) (numB xs.length).length c1,.slice (some ⟨gl,0,none⟩) xs.length cl,.slice (some ⟨u.heap.size,0,none⟩) 4 4] 63))
 have CB:=zh (ConB11.iConcat (u1.alloc (.cells #[.slice (some ⟨g1,0,none⟩) (numB xs.length).length c1,.slice (some ⟨gl,0,none⟩) xs.length cl,.slice (some ⟨u.heap.size,0,none⟩) 4 4] 63)) u1.heap.size g1 0 (numB xs.length).length c1 gl 0 xs.length cl u.heap.size 0 4 4 (numB xs.length) xs [y0,y1,y2,y3] rfl rfl rfl (by omega) (by simp) (Nat.lt_of_lt_of_le (zu O1).lt.2 (by simp)) (by simp;omega) (by simp;omega) (AtO.of (zu A1).at) (AtO.of (fun i hi=>(((zu R2).below (zu B1) (by omega)).below (one_more u1 _) (by omega) i hi).1)) (ConB11.AtO.below (ConB11.AtO.below (lit_four u y0 y1 y2 y3) (zu B1) (by omega)) (one_more u1 _) (by omega)) (by simp) (by simp) (by simp))
 go_wp2_with fail
 refine(zu CB).mono ?_
 rintro e u2 ⟨v2,rfl,o2,b2⟩
 obtain⟨a2,c2,rfl,q2⟩:=o2.ob
 have O2:=zh q2
 have B2:=zh b2
 clear o2 q2 b2 CB
 go_wp2_with fail
 refine hK.out _ _ trivial (fun hHeld=>?_)
 clear hK K
 try simp only[oS6,Act.put,zA,zB,zC]
 refine tk 7 oS7 (.slice a2 (numB xs.length++(xs++[y0,y1,y2,y3])).length c2) rfl (by kernel_rfl) (fun _ _ _ h=>h) (by rfl) (fun w hSw=>?_) hHeld ?_
 ·(try dsimp only at hSw)
  unfold oS7
  go_simp
 try simp only[oS7,Act.put,zA,zB,zC]
 refine tk 8 oS8 (.bool true) rfl (by kernel_rfl) (fun _ _ _ h=>h) (by rfl) (fun w hSw=>?_) hHeld ?_
 ·(try dsimp only at hSw)
  unfold oS8
  go_simp
 try simp only[oS8,Act.put,zA,zB,zC]
 refine wpAnyH_done (by kernel_rfl) ?_ _
 have B9:=zh (show Below w.heap.size w u2 from(((zu B0).alloc (zu B0).size (.cells #[.int .u8 y0,.int .u8 y1,.int .u8 y2,.int .u8 y3] 107)).trans ((zu B1).mono (by have:=(zu B0).size;omega))).trans (((one_more u1 _).mono (by have:=(zu B0).size;omega)).trans ((zu B2).mono (by have:=(zu B0).size;simp;omega))))
 go_wp2
 go_ret2
 have e:=zu S1
 rw[List.append_assoc] at e
 refine⟨a2,c2,?_,?_,zu B9⟩
 ·rw[←e];rfl
 ·rw[←e];exact(zu O2).mono (by have:=(zu B0).size;simp;omega)
end ISeal11
namespace Con16
open SBytes SPut11 ConB11
open ByteH (Own At info8)
theorem iConcat2(w:World)(b g1 o1 n1 c1 g2 o2 n2 c2:Nat)(p1 p2:List Int)(l1:p1.length=n1)(l2:p2.length=n2)(h20:n1+n2≤1048576)
  (hb:b<w.heap.size)(q1:g1<w.heap.size)(q2:g2<w.heap.size)(a1:AtO w g1 o1 p1)(a2:AtO w g2 o2 p2)
  (s1:w.cell? ⟨b,0,none⟩=some (.slice (some ⟨g1,o1,none⟩) n1 c1))(s2:w.cell? ⟨b,1,none⟩=some (.slice (some ⟨g2,o2,none⟩) n2 c2)):
  Calls Tryz.prog 30 #[.slice (some ⟨b,0,none⟩) 2 2] w fun e w'=>∃v,e= .returned v∧OwnV w' w.heap.size v (p1++p2)∧Below w.heap.size w w':=by
 have A1:=zh a1
 have A2:=zh a2
 clear a1 a2
 go_enter Tryz.func30,Tryz.ntmps30
 go_wp2
 go_loop [3,5,11] (fun q _ j=>∃(k:Nat) (z:Int),j= .int .i64 k∧q= .int .i64 z∧((k=0∧z=0)∨(k=1∧z=(n1:Int))∨(k=2∧z=(n1:Int)+(n2:Int)))) (fun _ _ j=>2-(intOf j).toNat)
 case atStart=>exact⟨0,0,rfl,rfl,.inl ⟨rfl,rfl⟩⟩
 case round=>
  obtain⟨k,z,rfl,rfl,hk⟩:=hrel
  rcases hk with⟨rfl,rfl⟩|⟨rfl,rfl⟩|⟨rfl,rfl⟩
  ·go_wp2
   go_round
   case rel=>exact⟨1,(n1:Int),by go_num,by go_num,.inr (.inl ⟨rfl,rfl⟩)⟩
   case measure=>simp[intOf]
  ·go_wp2
   go_round
   case rel=>exact⟨2,(n1:Int)+(n2:Int),by go_num,by go_num,.inr (.inr ⟨rfl,rfl⟩)⟩
   case measure=>simp[intOf]
  ·have GR:=zh (show Calls Tryz.prog 67 #[.slice none 0 0,.int .i64 ((n1:Int)+(n2:Int))] w fun e w'=>∃v,e= .returned v∧OwnV w' w.heap.size v []∧Below w.heap.size w w' from by
    by_cases z:n1+n2=0
    ·rw[show(n1:Int)+(n2:Int)=0 by omega]
     exact(grow_none w).mono fun _ _ ⟨he,hb⟩=>⟨_,he,OwnV.nil _ _,hb⟩
    ·have:=grow_some w (n1+n2) (by omega) h20
     rw[show((n1+n2:Nat):Int)=(n1:Int)+(n2:Int) by omega] at this
     exact this)
   go_wp2_with fail
   refine(zu GR).mono ?_
   rintro e w1 ⟨v,rfl,ov,b1⟩
   have OV:=zh ov
   have B1:=zh b1
   clear ov b1 GR
   go_wp2
   go_loopw [6,8,27] (fun x _ j wr=>∃(k:Nat) (v:Value) (out:List Int),j= .int .i64 k∧v=x∧Hid (OwnV wr w.heap.size v out)∧Hid (Below w.heap.size w wr)∧((k=0∧out=[])∨(k=1∧p1=out)∨(k=2∧out=p1++p2))) (fun _ _ j _=>2-(intOf j).toNat)
   case atStart=>exact⟨0,v,[],rfl,rfl,OV,B1,.inl ⟨rfl,rfl⟩⟩
   case round=>
   clear OV B1
   obtain⟨k,v,out,rfl,rfl,OV,HB,hk⟩:=hrel
   rcases hk with⟨rfl,rfl⟩|⟨rfl,rfl⟩|⟨rfl,rfl⟩
   ·have s:wr.cell? ⟨b,0,none⟩=some (.slice (some ⟨g1,o1,none⟩) n1 c1):=((zu HB).cell (p:=⟨b,0,none⟩) hb).trans s1
    have A:=zh (AtO.below (zu A1) (zu HB) q1)
    have bs:=(zu HB).size
    have LN:=zh (show([]:List Int).length+n1≤1048576 from by(try simp);omega)
    go_wp2_with (first|(at_builtin;refine wp_catV _ rfl _ _ rfl w.heap.size n1 v ([]:List Int) p1 g1 o1 c1 rfl rfl (zu OV) l1 (zu A) (zu LN) bs ?_)|go_in)
    intro v5 w5 ov5 gr5 loc5
    have O5:=zh (show OwnV w5 w.heap.size v5 (p1) from by have:=ov5;exact this)
    have B5:=zh ((zu HB).grown gr5 bs (fun j hj=>((zu OV).lt j hj).1))
    clear ov5 gr5 loc5 A s
    go_wp2
    go_roundw
    case rel=>exact⟨1,v5,p1,by go_num,rfl,O5,B5,.inr (.inl ⟨rfl,rfl⟩)⟩
    case measure=>simp[intOf]
   ·have s:wr.cell? ⟨b,1,none⟩=some (.slice (some ⟨g2,o2,none⟩) n2 c2):=((zu HB).cell (p:=⟨b,1,none⟩) hb).trans s2
    have A:=zh (AtO.below (zu A2) (zu HB) q2)
    have bs:=(zu HB).size
    have LN:=zh (show(p1).length+n2≤1048576 from by(try simp);omega)
    go_wp2_with (first|(at_builtin;refine wp_catV _ rfl _ _ rfl w.heap.size n2 v (p1) p2 g2 o2 c2 rfl rfl (zu OV) l2 (zu A) (zu LN) bs ?_)|go_in)
    intro v5 w5 ov5 gr5 loc5
    have O5:=zh (show OwnV w5 w.heap.size v5 (p1++p2) from by have:=ov5;exact this)
    have B5:=zh ((zu HB).grown gr5 bs (fun j hj=>((zu OV).lt j hj).1))
    clear ov5 gr5 loc5 A s
    go_wp2
    go_roundw
    case rel=>exact⟨2,v5,p1++p2,by go_num,rfl,O5,B5,.inr (.inr ⟨rfl,rfl⟩)⟩
    case measure=>simp[intOf]
   ·go_wp2
    go_ret
    exact⟨_,rfl,zu OV,zu HB⟩
end Con16
namespace IFile14
open Fil14 OpensF14 DiskH14 DkH14 SDk14 SOk14
theorem iName(w:World)(n:Int):Calls Tryz.prog 87 #[.int .i64 n] w fun e w'=>e= .returned (.bool (okN n))∧w'=w:=by
 unfold okN
 by_cases h0:0≤n
 ·by_cases h1:n≤21
  ·rw[decide_eq_true ⟨h0,h1⟩]
   have a:n≥0:=h0
   have b:n<22:=by omega
   clear h1
   go_enter Tryz.func87,Tryz.ntmps87
   go_wp2
   go_ret
   exact⟨rfl,rfl⟩
  ·rw[decide_eq_false (fun q=>h1 q.2)]
   have a:n≥0:=h0
   have b:¬n<22:=by omega
   clear h1
   go_enter Tryz.func87,Tryz.ntmps87
   go_wp2
   go_ret
   exact⟨rfl,rfl⟩
 ·rw[decide_eq_false (fun q=>h0 q.1)]
  have a:¬n≥0:=h0
  go_enter Tryz.func87,Tryz.ntmps87
  go_wp2
  go_ret
  exact⟨rfl,rfl⟩
theorem iNameB(w:World)(n:Int)(b:Bool)(h:okN n=b):Calls Tryz.prog 87 #[.int .i64 n] w fun e w'=>e= .returned (.bool b)∧w'=w:=by
 rw[←h]
 exact iName w n
theorem iSizeF(w:World)(p0:Int)(p1 p2:ByteArray)(h:p1.size+p2.size≤1048576):Calls Tryz.prog 86 #[.agg #[.int .i64 p0,.string p1,.string p2]] w fun e w'=>e= .returned (.int .i64 ((p1.size:Int)+p2.size))∧Below w.heap.size w w':=by
 have B:=zh (one_more w (.cells #[.int .i64 p0,.string p1,.string p2] 120))
 have a1:wrap64 ((p1.size:Int)+p2.size)=p1.size+p2.size:=by rw[wrap64];omega
 go_enter Tryz.func86,Tryz.ntmps86
 go_wp2
 go_ret
 exact⟨rfl,zu B⟩
theorem iText(w:World)(p0:Int)(p1 p2:ByteArray)(h:p1.size+p2.size≤1048576):Calls Tryz.prog 134 #[.agg #[.int .i64 p0,.string p1,.string p2]] w fun e w'=>e= .returned (.string (p1++p2))∧Below w.heap.size w w':=by
 have B:=zh (one_more w (.cells #[.int .i64 p0,.string p1,.string p2] 120))
 go_enter Tryz.func134,Tryz.ntmps134
 go_wp2
 go_ret
 exact⟨rfl,zu B⟩
end IFile14
namespace ISg15
open Fil14 OpensF14 DiskH14 DkH14 SDk14 SOk14 SegP15
theorem iSeg(w:World)(n:Int):Calls Tryz.prog 28 #[.int .i64 n] w fun e w'=>e= .returned (.bool (okS n))∧w'=w:=by
 unfold okS
 by_cases h0:0≤n
 ·by_cases h1:n≤19
  ·rw[decide_eq_true ⟨h0,h1⟩]
   have a:n≥0:=h0
   have b:n<20:=by omega
   clear h1
   go_enter Tryz.func28,Tryz.ntmps28
   go_wp2
   go_ret
   exact⟨rfl,rfl⟩
  ·rw[decide_eq_false (fun q=>h1 q.2)]
   have a:n≥0:=h0
   have b:¬n<20:=by omega
   clear h1
   go_enter Tryz.func28,Tryz.ntmps28
   go_wp2
   go_ret
   exact⟨rfl,rfl⟩
 ·rw[decide_eq_false (fun q=>h0 q.1)]
  have a:¬n≥0:=h0
  go_enter Tryz.func28,Tryz.ntmps28
  go_wp2
  go_ret
  exact⟨rfl,rfl⟩
theorem iSegOk(w:World)(n:Int)(b:Bool)(h:okS n=b):Calls Tryz.prog 28 #[.int .i64 n] w fun e w'=>e= .returned (.bool b)∧w'=w:=by
 rw[←h]
 exact iSeg w n
end ISg15
end Go.Proofs.YtagmnociflkhcaaGreat
