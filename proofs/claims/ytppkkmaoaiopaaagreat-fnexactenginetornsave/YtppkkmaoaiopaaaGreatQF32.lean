/- Lemmas. -/
import Derived.Test.YtppkkmaoaiopaaaGreatQF30
import Derived.Test.YtppkkmaoaiopaaaGreatQF31
open Go.ChangeShapes Go.WideShapes Go.ChangeAt Go.RowKit
set_option linter.unusedVariables false
set_option linter.unusedSimpArgs false
set_option maxRecDepth 100000
set_option maxHeartbeats 32000000
namespace Go.Proofs.YtppkkmaoaiopaaaGreat
namespace ISeal11
open SBytes SPut11 SPuts11 SSeal11
open ByteH (Own At)
theorem lit_four(w:World)(a b c d:Int):AtO (w.alloc (.cells #[.int .u8 a,.int .u8 b,.int .u8 c,.int .u8 d] 200)) w.heap.size 0 [a,b,c,d]:=by
 intro i hi
 have:i=0∨i=1∨i=2∨i=3:=by simp at hi;omega
 rcases this with rfl|rfl|rfl|rfl<;>simp
theorem numB_some(n:Nat):(numB n).length≠0:=by
 unfold numB
 rw[if_neg (by omega)]
 by_cases h:127<((n:Int)).toNat
 ·rw[numF_more h];simp
 ·rw[numF_last h];simp
theorem iSeal(w:World)(gl cl:Nat)(xs:List Int)(h20:xs.length≤1048576)(hg:gl<w.heap.size)(hr:AtB w gl xs):
  Calls Tryz.prog 145 #[.slice (some ⟨gl,0,none⟩) xs.length cl] w fun e w'=>∃a c,e= .returned (.tuple #[.slice a (sealB xs).length c,.bool (decide (xs.length≤9000))])∧VOB.Ob w' w.heap.size a (sealB xs).length c (sealB xs)∧Below w.heap.size w w':=by
 by_cases h0:xs.length≤9000
 case neg=>
  have e:sealB xs=[]:=if_neg h0
  rw[e]
  have O0:=zh (lit0 w w.heap.size (Nat.le_refl _) rfl)
  have B0:=zh (one_more w (.cells #[] 5))
  have h1:(9000:Int)<xs.length:=by omega
  have D:=zh (show decide (xs.length≤9000)=false from by simp;omega)
  rw[zu D]
  clear e h0 hr
  go_enter Tryz.func145,Tryz.ntmps145
  go_wp2
  go_ret2
  exact⟨_,0,rfl,.of (zu O0),zu B0⟩
 have S:=zh (show numB xs.length++xs++four (chkB xs)=sealB xs from(if_pos h0).symm)
 have D:=zh (show decide (xs.length≤9000)=true from by simp;omega)
 rw[zu D]
 have SM:=zh (ISum11.iSum w gl 0 cl xs h20 hg (.of hr))
 have R:=zh hr
 have HG:=zh hg
 have NE:=zh (numB_some xs.length)
 have nine:=numB_nine (x:=xs.length) (by omega)
 have h1:¬(9000:Int)<xs.length:=by omega
 clear hr D
 go_enter Tryz.func145,Tryz.ntmps145
 go_wp2_with fail
 refine(zu SM).mono ?_
 rintro e u ⟨rfl,b1⟩
 have S1:=zh (show numB xs.length++xs++[chkB xs%256,chkB xs/256%256,chkB xs/65536%256,chkB xs/16777216%256]=sealB xs from zu S)
 have us:=b1.size
 have B0:=zh b1
 clear S SM b1
 generalize chkB xs%256=y0 at *
 generalize chkB xs/256%256=y1 at *
 generalize chkB xs/65536%256=y2 at *
 generalize chkB xs/16777216%256=y3 at *
 have R2:=zh (((zu R).below (zu B0) (zu HG)).below (one_more u (.cells #[.int .u8 y0,.int .u8 y1,.int .u8 y2,.int .u8 y3] 200)) (by omega))
 clear h1
 go_wp2
 refine wp_region_held_drew (S:=(fun _=>True)) (by kernel_rfl) trivial (fun hHeld=>?_)
 refine zT 0 11 (.slice (some ⟨gl,0,none⟩) xs.length cl) rfl hHeld ?_
 refine zT 1 12 (.int .i64 xs.length) rfl hHeld ?_
 refine zT 3 14 (.slice (some ⟨gl,0,none⟩) xs.length cl) rfl hHeld ?_
 refine zT 4 15 (.slice (some ⟨u.heap.size,0,none⟩) 4 4) rfl hHeld ?_
 try simp only[Act.put,zA,zB,zC]
 refine zR 2 rfl (fun K hK=>?_)
 go_simp
 go_wp2_with fail
 refine(IPut11.iPutNum _ xs.length (by omega)).mono ?_
 rintro e u1 ⟨a1,c1,rfl,o1,bb⟩
 obtain⟨g1,rfl,q1⟩:∃g,a1=some ⟨g,0,none⟩∧Own u1 u.heap.size g (numB xs.length).length c1 (numB xs.length):=by
  rcases o1.either with⟨_,h,_⟩|⟨g,h,o⟩
  ·exact absurd h (zu NE)
  ·exact⟨g,h,o.mono (by simp[World.drew])⟩
 have B1:=zh (show Below (u.heap.size+1) (u.alloc (.cells #[.int .u8 y0,.int .u8 y1,.int .u8 y2,.int .u8 y3] 200)) u1 from by
  have h:=bb.mono (B':=u.heap.size+1) (by simp[World.drew])
  exact⟨h.os,h.tape,h.output,h.size,h.block⟩)
 have O1:=zh q1
 have us1:=bb.size
 rw[show(u.alloc (.cells #[.int .u8 y0,.int .u8 y1,.int .u8 y2,.int .u8 y3] 200)).drew.heap.size=u.heap.size+1 by simp[World.drew]] at us1
 clear bb o1 q1
 go_wp2_with fail
 refine hK.out _ _ trivial (fun hHeld=>?_)
 clear hK K
 try simp only[Act.put,zA,zB,zC]
 refine zR 5 rfl (fun K hK=>?_)
 go_simp
 refine hK.out _ _ trivial (fun hHeld=>?_)
 clear hK K
 try simp only[Act.put,zA,zB,zC]
 refine zR 6 rfl (fun K hK=>?_)
 go_simp
 have A1:=zh (own_alloc (zu O1) (.cells #[.slice (some ⟨g1,0,none⟩) (numB xs.length).length c1,.slice (some ⟨gl,0,none⟩) xs.length cl,.slice (some ⟨u.heap.size,0,none⟩) 4 4] 142))
 have CB:=zh (ConB11.iConcat (u1.alloc (.cells #[.slice (some ⟨g1,0,none⟩) (numB xs.length).length c1,.slice (some ⟨gl,0,none⟩) xs.length cl,.slice (some ⟨u.heap.size,0,none⟩) 4 4] 142)) u1.heap.size g1 0 (numB xs.length).length c1 gl 0 xs.length cl u.heap.size 0 4 4 (numB xs.length) xs [y0,y1,y2,y3] rfl rfl rfl (by omega) (by simp) (Nat.lt_of_lt_of_le (zu O1).lt.2 (by simp)) (by simp;omega) (by simp;omega) (AtO.of (zu A1).at) (AtO.of (fun i hi=>(((zu R2).below (zu B1) (by omega)).below (one_more u1 _) (by omega) i hi).1)) (ConB11.AtO.below (ConB11.AtO.below (lit_four u y0 y1 y2 y3) (zu B1) (by omega)) (one_more u1 _) (by omega)) (by simp) (by simp) (by simp))
 go_wp2_with fail
 refine(zu CB).mono ?_
 rintro e u2 ⟨v2,rfl,o2,b2⟩
 obtain⟨a2,c2,rfl,q2⟩:=o2.ob
 have O2:=zh q2
 have B2:=zh b2
 clear o2 q2 b2 CB
 go_wp2_with fail
 refine hK.out _ _ trivial (fun hHeld=>?_)
 clear hK K
 refine zT 7 2 (.slice a2 (numB xs.length++(xs++[y0,y1,y2,y3])).length c2) rfl hHeld ?_
 refine zT 8 3 (.bool true) rfl hHeld ?_
 try simp only[Act.put,zA,zB,zC]
 refine wpAnyH_done (by kernel_rfl) ?_ _
 have B9:=zh (show Below w.heap.size w u2 from(((zu B0).alloc (zu B0).size (.cells #[.int .u8 y0,.int .u8 y1,.int .u8 y2,.int .u8 y3] 200)).trans ((zu B1).mono (by have:=(zu B0).size;omega))).trans (((one_more u1 _).mono (by have:=(zu B0).size;omega)).trans ((zu B2).mono (by have:=(zu B0).size;simp;omega))))
 go_wp2
 go_ret2
 have e:=zu S1
 rw[List.append_assoc] at e
 refine⟨a2,c2,?_,?_,zu B9⟩
 ·rw[←e];rfl
 ·rw[←e];exact(zu O2).mono (by have:=(zu B0).size;simp;omega)
end ISeal11
end Go.Proofs.YtppkkmaoaiopaaaGreat
