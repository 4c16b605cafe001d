/- Texts of one proof, one behind the other: IUnseal11. -/
import Derived.Test.YtagmnociflkhcaaGreatDoorRows
import Derived.Test.YtagmnociflkhcaaGreatDoorCards
import Derived.Test.YtagmnociflkhcaaGreatDoorTie
import Derived.Test.YtagmnociflkhcaaGreatDoorQL0
import Derived.Test.YtagmnociflkhcaaGreatDoorQL1
import Derived.Test.YtagmnociflkhcaaGreatDoorQL24
import Derived.Test.YtagmnociflkhcaaGreatDoorQL30
import Derived.Test.YtagmnociflkhcaaGreatDoorQL31
import Derived.Test.YtagmnociflkhcaaGreatDoorQL32
import Derived.Deep.RegionHeld3
import Derived.Laws.Cover3
set_option linter.unusedVariables false
set_option linter.unusedSimpArgs false
open Go.ChangeShapes Go.WideShapes Go.ChangeAt Go.RowKit
set_option maxRecDepth 100000
set_option maxHeartbeats 32000000
namespace Go.Proofs.YtagmnociflkhcaaGreatDoor
namespace IUnseal11
open SBytes SPut11 SUnseal11 IRd11 StepB11
open ByteH (Own At)
abbrev oU0:Oper:={dst:=some 45,op:=Go.Op.load 98 (Go.Operand.tmp 12),type:=98,pos:= "l11_bytes.go:92",after:= #[],guard:=none}
abbrev oU1:Oper:={dst:=some 46,op:=Go.Op.move (Go.Operand.tmp 11),type:=49,pos:= "l11_bytes.go:92",after:= #[],guard:=none}
abbrev oU2:Oper:={dst:=some 47,op:=Go.Op.call {callee:=Go.Callee.value (Go.Operand.func 43),args:= #[Go.Operand.tmp 46],argTypes:= #[49]},type:=98,pos:= "l11_bytes.go:92",after:= #[{on:=1,ground:=Go.Ground.data}],guard:=none}
abbrev oU3:Oper:={dst:=some 48,op:=Go.Op.binOp Go.BinOp.neq 98 (Go.Operand.tmp 45) (Go.Operand.tmp 47) 98,type:=4,pos:= "l11_bytes.go:92",after:= #[{on:=0,ground:=Go.Ground.data},{on:=2,ground:=Go.Ground.data}],guard:=none}
abbrev oV0:Oper:={dst:=some 50,op:=Go.Op.buildSlice 49 0 #[],type:=49,pos:= "l11_bytes.go:95",after:= #[],guard:=none}
abbrev oV1:Oper:={dst:=some 51,op:=Go.Op.move (Go.Operand.tmp 11),type:=49,pos:= "l11_bytes.go:95",after:= #[],guard:=none}
abbrev oV2:Oper:={dst:=some 52,op:=Go.Op.call {callee:=Go.Callee.builtin Go.Builtin.append,args:= #[Go.Operand.tmp 50,Go.Operand.tmp 51],argTypes:= #[49,49]},type:=49,pos:= "l11_bytes.go:95",after:= #[{on:=0,ground:=Go.Ground.data},{on:=1,ground:=Go.Ground.data}],guard:=none}
abbrev oV3:Oper:={dst:=some 53,op:=Go.Op.load 3 (Go.Operand.tmp 3),type:=3,pos:= "l11_bytes.go:95",after:= #[{on:=4,ground:=Go.Ground.gcOnly Go.Departure.lateStores}],guard:=none}
abbrev oV4:Oper:={dst:=some 4,op:=Go.Op.assign (Go.Operand.tmp 52),type:=49,pos:= "l11_bytes.go:95",after:= #[{on:=2,ground:=Go.Ground.data},{on:=2,ground:=Go.Ground.chain},{on:=0,ground:=Go.Ground.phase},{on:=1,ground:=Go.Ground.phase},{on:=2,ground:=Go.Ground.phase},{on:=3,ground:=Go.Ground.textOnly Go.Departure.lateStores}],guard:=none}
abbrev oV5:Oper:={dst:=some 5,op:=Go.Op.assign (Go.Operand.tmp 53),type:=3,pos:= "l11_bytes.go:95",after:= #[{on:=3,ground:=Go.Ground.data},{on:=4,ground:=Go.Ground.chain},{on:=0,ground:=Go.Ground.phase},{on:=1,ground:=Go.Ground.phase},{on:=2,ground:=Go.Ground.phase},{on:=3,ground:=Go.Ground.phase},{on:=4,ground:=Go.Ground.phase}],guard:=none}
abbrev oV6:Oper:={dst:=some 6,op:=Go.Op.assign (Go.Operand.const (Go.Value.int Go.IntKind.i64 0)),type:=3,pos:= "l11_bytes.go:95",after:= #[{on:=5,ground:=Go.Ground.chain},{on:=0,ground:=Go.Ground.phase},{on:=1,ground:=Go.Ground.phase},{on:=2,ground:=Go.Ground.phase},{on:=3,ground:=Go.Ground.phase},{on:=4,ground:=Go.Ground.phase},{on:=5,ground:=Go.Ground.phase}],guard:=none}
theorem iUnsealG(w:World)(gl cl:Nat)(xs:List Int)(p0:Int)(h20:xs.length≤1048576)(hc:xs.length≤cl)(hx:p0≤9223372036854775807)(hg:gl<w.heap.size)(hr:AtB w gl xs):
  Calls Tryz.prog 21 #[.slice (some ⟨gl,0,none⟩) xs.length cl,.int .i64 p0] w fun e w'=>∃g c,e= .returned (.tuple #[.slice (some ⟨g,0,none⟩) (unsealN xs p0).1.length c,.int .i64 (unsealN xs p0).2.1,.int .i64 (unsealN xs p0).2.2])∧Own w' w.heap.size g (unsealN xs p0).1.length c (unsealN xs p0).1∧Below w.heap.size w w':=by
 have R:=zh hr
 have HG:=zh hg
 have GI:=zh (getN_in xs p0)
 have X0:=zh (show Pl ((w.alloc (.cells #[.int .i64 p0] 3)).alloc (.cells #[.slice (some ⟨gl,0,none⟩) xs.length cl,.pointer (some ⟨w.heap.size,0,none⟩)] 92)) w.heap.size w.heap.size p0 from pl_alloc (pl_box w w.heap.size p0 (Nat.le_refl _) rfl) _)
 have B0:=zh ((one_more w (.cells #[.int .i64 p0] 3)).alloc (by simp) (.cells #[.slice (some ⟨gl,0,none⟩) xs.length cl,.pointer (some ⟨w.heap.size,0,none⟩)] 92))
 have C0:=zh (rd_box (w.alloc (.cells #[.int .i64 p0] 3)) (.slice (some ⟨gl,0,none⟩) xs.length cl) (.pointer (some ⟨w.heap.size,0,none⟩)))
 rw[show(w.alloc (.cells #[.int .i64 p0] 3)).heap.size=w.heap.size+1 by simp] at C0
 have S0:=zh (show((w.alloc (.cells #[.int .i64 p0] 3)).alloc (.cells #[.slice (some ⟨gl,0,none⟩) xs.length cl,.pointer (some ⟨w.heap.size,0,none⟩)] 92)).heap.size=w.heap.size+2 from by simp)
 have IN:=zh (iNum _ gl cl w.heap.size w.heap.size xs p0 hx h20 hc hg (hr.below (zu B0) hg) (zu X0))
 obtain⟨r,hq⟩:∃r,Hid (unsealN xs p0=r):=⟨_,rfl⟩
 rw[zu hq]
 unfold unsealN at hq
 clear hr X0
 generalize getN xs p0=y at *
 obtain⟨n,f,ok⟩:=y
 go_enter Tryz.func21,Tryz.ntmps21
 go_wp2_with fail
 refine(zu IN).mono ?_
 rintro e u ⟨v,q,rfl,hv,p1,g1⟩
 have us:=g1.size
 rw[zu S0] at us
 have B1:=zh ((zu B0).grown g1 (by simp;omega) (fun j hj=>by cases hj;exact Nat.le_refl _))
 have P1:=zh p1
 have d0:=(cell_grown g1 0 (g:=w.heap.size+1) (by simp) (by omega)).trans (zu C0).1
 have d1:=(cell_grown g1 1 (g:=w.heap.size+1) (by simp) (by omega)).trans (zu C0).2
 have pc:=p1.cell
 clear p1 g1 IN C0 S0 B0
 cases ok with
 |false=>
  have e:=zu hq
  rw[if_pos (.inl rfl)] at e
  subst e
  have O5:=zh (lit0 u w.heap.size (by omega) rfl)
  have B5:=zh ((zu B1).alloc (by omega) (.cells #[] 5))
  clear hq GI hv pc d0 d1
  go_wp2
  go_ret3
  exact⟨_,0,rfl,zu O5,zu B5⟩
 |true=>
 obtain⟨rfl,rfl⟩:=hv rfl
 obtain⟨g0,g1,g2⟩:=(zu GI) rfl
 clear GI hv
 by_cases n9:9000<v
 ·have e:=zu hq
  rw[if_pos (.inr n9)] at e
  subst e
  have O5:=zh (lit0 u w.heap.size (by omega) rfl)
  have B5:=zh ((zu B1).alloc (by omega) (.cells #[] 5))
  clear hq pc d0 d1
  go_wp2
  go_ret3
  exact⟨_,0,rfl,zu O5,zu B5⟩
 obtain⟨n,rfl⟩:∃n:Nat,v=n:=⟨v.toNat,by omega⟩
 obtain⟨f,rfl⟩:∃f:Nat,q=f:=⟨q.toNat,by omega⟩
 have Q:=zu hq
 rw[if_neg (by simp;omega)] at Q
 simp only[Int.toNat_natCast] at Q
 clear hq
 by_cases s:(xs.length:Int) -f<n+4
 ·rw[if_pos s] at Q
  subst Q
  have D:=zh (And.intro d0 d1)
  clear pc
  go_wp2_with fail
  refine(iTake_no _ gl cl w.heap.size w.heap.size xs.length f (n+4) (by omega) (by omega) h20 s (zu P1)).mono ?_
  rintro e u2 ⟨rfl,b2⟩
  have s2:=b2.size
  have O5:=zh (lit0 u2 w.heap.size (by omega) rfl)
  have B5:=zh (((zu B1).trans (b2.mono (by omega))).alloc (by omega) (.cells #[] 5))
  clear b2
  go_wp2
  go_ret3
  exact⟨_,0,rfl,zu O5,zu B5⟩
 rw[if_neg s] at Q
 have HQ:=zh Q
 clear Q pc
 have TK:=zh (iTake_yes u gl cl w.heap.size w.heap.size xs.length f (n+4) hc h20 (by omega) (by omega) (zu P1))
 rw[show((n+4:Nat):Int)=(n:Int)+4 by omega] at TK
 go_wp2_with fail
 refine(zu TK).mono ?_
 rintro e u2 ⟨c,rfl,hc2,p2,g3⟩
 have s2:=g3.size
 have B2:=zh ((zu B1).grown g3 (by omega) (fun j hj=>by cases hj;exact Nat.le_refl _))
 have pc:=p2.cell
 have A2:=zh ((zu R).below (zu B2) (zu HG))
 clear p2 g3 TK d0 d1
 have z0:=((zu A2) (f+n) (by omega)).1
 have z1:=((zu A2) (f+n+1) (by omega)).1
 have z2:=((zu A2) (f+n+2) (by omega)).1
 have z3:=((zu A2) (f+n+3) (by omega)).1
 obtain⟨v0,V0⟩:∃v,Hid (xs.getD (f+n) 0=v):=⟨_,rfl⟩
 obtain⟨v1,V1⟩:∃v,Hid (xs.getD (f+n+1) 0=v):=⟨_,rfl⟩
 obtain⟨v2,V2⟩:∃v,Hid (xs.getD (f+n+2) 0=v):=⟨_,rfl⟩
 obtain⟨v3,V3⟩:∃v,Hid (xs.getD (f+n+3) 0=v):=⟨_,rfl⟩
 rw[zu V0] at z0
 rw[zu V1] at z1
 rw[zu V2] at z2
 rw[zu V3] at z3
 have cn:¬c=n:=by omega
 have c4:n+4≤c:=hc2
 have gu:gl<u2.heap.size:=by omega
 have hat:∀w,(Instr.arrayAt 98 (.slice (some ⟨gl,f+n,none⟩) 4 (c-n))).run Tryz.prog w= .ok (.pointer (some ⟨gl,f+n,none⟩)) w:=fun w=>run_arrayAt w 98 _ 4 _ 4 _ Tryz.underlying98 (by omega)
 go_wp2
 go_region
 have K0:(u2.alloc (.cells #[.int .u8 v0,.int .u8 v1,.int .u8 v2,.int .u8 v3] 98)).drew.cell? ⟨u2.heap.size,0,none⟩=some (.int .u8 v0)∧(u2.alloc (.cells #[.int .u8 v0,.int .u8 v1,.int .u8 v2,.int .u8 v3] 98)).drew.cell? ⟨u2.heap.size,0+1,none⟩=some (.int .u8 v1)∧(u2.alloc (.cells #[.int .u8 v0,.int .u8 v1,.int .u8 v2,.int .u8 v3] 98)).drew.cell? ⟨u2.heap.size,0+2,none⟩=some (.int .u8 v2)∧(u2.alloc (.cells #[.int .u8 v0,.int .u8 v1,.int .u8 v2,.int .u8 v3] 98)).drew.cell? ⟨u2.heap.size,0+3,none⟩=some (.int .u8 v3):=⟨by simp,by simp,by simp,by simp⟩
 have PL:=zh (piece_len (xs:=xs) (f:=f) (n:=n) (by omega))
 have AP:=zh (show SBytes.AtBO u2 gl f (piece xs f n) from fun i hi=>by
  rw[zu PL] at hi
  rw[piece_get hi]
  exact(zu A2) (f+i) (by omega))
 have SM:=zh (fun u hg h=>ISum11.iSum u gl f c (piece xs f n) (by rw[zu PL];omega) hg h)
 have CI:=ISum11.chkB_in (piece xs f n)
 rw[zu PL] at SM
 have w0:=((zu A2) (f+n) (by omega)).2
 have w1:=((zu A2) (f+n+1) (by omega)).2
 have w2:=((zu A2) (f+n+2) (by omega)).2
 have w3:=((zu A2) (f+n+3) (by omega)).2
 rw[zu V0] at w0
 rw[zu V1] at w1
 rw[zu V2] at w2
 rw[zu V3] at w3
 have HQ2:=zu HQ
 unfold fourN at HQ2
 rw[zu V0,zu V1,zu V2,zu V3] at HQ2
 clear HQ z0 z1 z2 z3 hat
 generalize chkB (piece xs f n)=z at *
 by_cases E:z=v0+v1*256+v2*65536+v3*16777216
 ·rw[if_pos E] at HQ2
  have e0:z%256=v0:=by omega
  have e1:z/256%256=v1:=by omega
  have e2:z/65536%256=v2:=by omega
  have e3:z/16777216%256=v3:=by omega
  rw[e0,e1,e2,e3] at SM
  have EQ:∀w:World,(Op.equalIn 10000 98 (.agg #[.int .u8 v0,.int .u8 v1,.int .u8 v2,.int .u8 v3]) (.agg #[.int .u8 v0,.int .u8 v1,.int .u8 v2,.int .u8 v3])).run Tryz.prog w= .ok true w:=fun w=>by rw[EqS11.eqSum];simp
  have QQ:=zh HQ2
  clear e0 e1 e2 e3 E CI w0 w1 w2 w3 HQ2
  go_wp2_with fail
  refine wp_region_held_drew (S:=(fun w'=>w'.cell? ⟨u2.heap.size,0,none⟩=some (.int .u8 v0)∧w'.cell? ⟨u2.heap.size,0+1,none⟩=some (.int .u8 v1)∧w'.cell? ⟨u2.heap.size,0+2,none⟩=some (.int .u8 v2)∧w'.cell? ⟨u2.heap.size,0+3,none⟩=some (.int .u8 v3))) (by kernel_rfl) K0 (fun hHeld=>?_)
  refine tk 0 oU0 (.agg #[.int .u8 v0,.int .u8 v1,.int .u8 v2,.int .u8 v3]) rfl (by kernel_rfl) (fun _ _ _ h=>h) (by rfl) (fun w hSw=>?_) hHeld ?_
  ·(try dsimp only at hSw)
   unfold oU0
   go_simp
  try simp only[oU0,Act.put,zA,zB,zC]
  refine tk 1 oU1 (.slice (some ⟨gl,f,none⟩) n c) rfl (by kernel_rfl) (fun _ _ _ h=>h) (by rfl) (fun w hSw=>?_) hHeld ?_
  ·(try dsimp only at hSw)
   unfold oU1
   go_simp
  try simp only[oU1,Act.put,zA,zB,zC]
  refine wpAnyH_ready (rs:=[2]) (by kernel_rfl) (by simp) ?_
  refine AllReadyH.cons (o:=oU2) rfl (fun K hK=>?_) AllReadyH.nil
  unfold oU2
  go_simp
  go_wp2_with fail
  refine((zu SM) _ (by simp[World.drew];omega) (by exact(zu AP).below ((one_more u2 (.cells #[.int .u8 v0,.int .u8 v1,.int .u8 v2,.int .u8 v3] 98)).drew.drew) gu)).mono ?_
  rintro e u3 ⟨rfl,b3⟩
  have B3:=zh (show Below (u2.heap.size+1) (u2.alloc (.cells #[.int .u8 v0,.int .u8 v1,.int .u8 v2,.int .u8 v3] 98)) u3 from by
   have h:=b3.mono (B':=u2.heap.size+1) (by simp[World.drew])
   exact⟨h.os,h.tape,h.output,h.size,h.block⟩)
  have s3:u2.heap.size+1≤u3.heap.size:=by have:=(zu B3).size;simpa using this
  have K3:u3.cell? ⟨u2.heap.size,0,none⟩=some (.int .u8 v0)∧u3.cell? ⟨u2.heap.size,0+1,none⟩=some (.int .u8 v1)∧u3.cell? ⟨u2.heap.size,0+2,none⟩=some (.int .u8 v2)∧u3.cell? ⟨u2.heap.size,0+3,none⟩=some (.int .u8 v3):=⟨((zu B3).cell (p:=⟨u2.heap.size,0,none⟩) (by simp)).trans (by simp),((zu B3).cell (p:=⟨u2.heap.size,0+1,none⟩) (by simp)).trans (by simp),((zu B3).cell (p:=⟨u2.heap.size,0+2,none⟩) (by simp)).trans (by simp),((zu B3).cell (p:=⟨u2.heap.size,0+3,none⟩) (by simp)).trans (by simp)⟩
  clear b3 SM
  go_wp2_with fail
  refine hK.out _ _ K3 (fun hHeld=>?_)
  clear hK K
  try simp only[oU2,Act.put,zA,zB,zC]
  refine tk 3 oU3 (.bool false) rfl (by kernel_rfl) (fun _ _ _ h=>h) (by rfl) (fun w hSw=>?_) hHeld ?_
  ·(try dsimp only at hSw)
   unfold oU3
   go_simp
  try simp only[oU3,Act.put,zA,zB,zC]
  refine wpAnyH_done (by kernel_rfl) ?_ _
  have B4:=zh (show Below w.heap.size w u3 from((zu B2).alloc (by omega) (.cells #[.int .u8 v0,.int .u8 v1,.int .u8 v2,.int .u8 v3] 98)).trans ((zu B3).mono (by omega)))
  have B3x:=zh (show Below u2.heap.size u2 (u3.drew.alloc (.cells #[] 5)) from(((one_more u2 (.cells #[.int .u8 v0,.int .u8 v1,.int .u8 v2,.int .u8 v3] 98))).trans ((zu B3).mono (by omega))).drew.alloc (show u2.heap.size≤u3.heap.size from by omega) _)
  have sd:w.heap.size≤u3.drew.heap.size:=(show w.heap.size≤u3.heap.size from by omega)
  have p4:u3.cell? ⟨w.heap.size,0,none⟩=some (.int .i64 ((f:Int)+((n:Int)+4))):=(((one_more u2 (.cells #[.int .u8 v0,.int .u8 v1,.int .u8 v2,.int .u8 v3] 98)).trans ((zu B3).mono (by omega))).cell (p:=⟨w.heap.size,0,none⟩) (show w.heap.size<u2.heap.size from by omega)).trans pc
  have p5:(u3.drew.alloc (.cells #[] 5)).cell? ⟨w.heap.size,0,none⟩=some (.int .i64 ((f:Int)+((n:Int)+4))):=((one_more u3.drew (.cells #[] 5)).cell (p:=⟨w.heap.size,0,none⟩) (show w.heap.size<u3.heap.size from by omega)).trans p4
  go_wp2_with fail
  refine wp_region_held_drew (S:=(fun w'=>w'.cell? ⟨w.heap.size,0,none⟩=some (.int .i64 ((f:Int)+((n:Int)+4))))) (by kernel_rfl) p4 (fun hHeld=>?_)
  refine tk 1 oV1 (.slice (some ⟨gl,f,none⟩) n c) rfl (by kernel_rfl) (fun _ _ _ h=>h) (by rfl) (fun w hSw=>?_) hHeld ?_
  ·(try dsimp only at hSw)
   unfold oV1
   go_simp
  try simp only[oV1,Act.put,zA,zB,zC]
  refine tk 3 oV3 (.int .i64 ((f:Int)+((n:Int)+4))) rfl (by kernel_rfl) (fun _ _ _ h=>h) (by rfl) (fun w hSw=>?_) hHeld ?_
  ·(try dsimp only at hSw)
   unfold oV3
   go_simp
  try simp only[oV3,Act.put,zA,zB,zC]
  refine wpAnyH_ready (rs:=[0]) (by kernel_rfl) (by simp) ?_
  refine AllReadyH.cons (o:=oV0) rfl (fun K hK=>?_) AllReadyH.nil
  unfold oV0
  go_simp
  refine hK.out _ _ p5 (fun hHeld=>?_)
  clear hK K
  try simp only[oV0,Act.put,zA,zB,zC]
  refine wpAnyH_ready (rs:=[2]) (by kernel_rfl) (by simp) ?_
  refine AllReadyH.cons (o:=oV2) rfl (fun K hK=>?_) AllReadyH.nil
  refine step_catB _ (by rfl) _ _ (by rfl) w.heap.size u3.heap.size 0 0 n [] (piece xs f n) gl f c (by rfl) (by rfl) (by exact lit0 u3.drew w.heap.size sd rfl) (by rw[zu PL]) (by exact fun i hi=>((zu AP).below (zu B3x) (by omega) i hi).1) (by omega) (Nat.le_trans sd (by simp)) ?_
  intro g9 c9 u9 o9 gr9 loc9
  have K9:u9.cell? ⟨w.heap.size,0,none⟩=some (.int .i64 ((f:Int)+((n:Int)+4))):=gr9.cell p5 (fun e=>by injection e with e;simp at e;omega)
  have O9:=zh o9
  have B9:=zh (((zu B4).drew.alloc sd (.cells #[] 5)).grown gr9 (Nat.le_trans sd (by simp)) (fun j hj=>by cases hj;exact sd))
  clear o9 gr9 loc9
  refine hK.out _ _ K9 (fun hHeld=>?_)
  clear hK K
  try simp only[oV2,Act.put,zA,zB,zC]
  refine tk 4 oV4 (.slice (some ⟨g9,0,none⟩) n c9) rfl (by kernel_rfl) (fun _ _ _ h=>h) (by rfl) (fun w hSw=>?_) hHeld ?_
  ·(try dsimp only at hSw)
   unfold oV4
   go_simp
  try simp only[oV4,Act.put,zA,zB,zC]
  refine tk 5 oV5 (.int .i64 ((f:Int)+((n:Int)+4))) rfl (by kernel_rfl) (fun _ _ _ h=>h) (by rfl) (fun w hSw=>?_) hHeld ?_
  ·(try dsimp only at hSw)
   unfold oV5
   go_simp
  try simp only[oV5,Act.put,zA,zB,zC]
  refine tk 6 oV6 (.int .i64 0) rfl (by kernel_rfl) (fun _ _ _ h=>h) (by rfl) (fun w hSw=>?_) hHeld ?_
  ·(try dsimp only at hSw)
   unfold oV6
   go_simp
  try simp only[oV6,Act.put,zA,zB,zC]
  refine wpAnyH_done (by kernel_rfl) ?_ _
  go_wp2
  go_ret3
  have e:=zu QQ
  subst e
  have e1:(f:Int)+((n:Int)+4)=(f:Int)+(n:Int)+4:=by omega
  refine⟨g9,c9,?_,?_,zu B9⟩
  ·simp only[zu PL]
   rw[←e1]
   rfl
  ·simp only[zu PL]
   exact(by have:=zu O9;simpa using this)
 ·rw[if_neg E] at HQ2
  subst HQ2
  have ne:¬(v0=z%256∧v1=z/256%256∧v2=z/65536%256∧v3=z/16777216%256):=by omega
  generalize z%256=y0 at *
  generalize z/256%256=y1 at *
  generalize z/65536%256=y2 at *
  generalize z/16777216%256=y3 at *
  have EQ:∀w:World,(Op.equalIn 10000 98 (.agg #[.int .u8 v0,.int .u8 v1,.int .u8 v2,.int .u8 v3]) (.agg #[.int .u8 y0,.int .u8 y1,.int .u8 y2,.int .u8 y3])).run Tryz.prog w= .ok false w:=fun w=>by
   rw[EqS11.eqSum,show(v0==y0&&v1==y1&&v2==y2&&v3==y3)=false from by simp;exact fun a b c d=>ne ⟨a,b,c,d⟩]
  clear E CI w0 w1 w2 w3 ne
  go_wp2_with fail
  refine wp_region_held_drew (S:=(fun w'=>w'.cell? ⟨u2.heap.size,0,none⟩=some (.int .u8 v0)∧w'.cell? ⟨u2.heap.size,0+1,none⟩=some (.int .u8 v1)∧w'.cell? ⟨u2.heap.size,0+2,none⟩=some (.int .u8 v2)∧w'.cell? ⟨u2.heap.size,0+3,none⟩=some (.int .u8 v3))) (by kernel_rfl) K0 (fun hHeld=>?_)
  refine tk 0 oU0 (.agg #[.int .u8 v0,.int .u8 v1,.int .u8 v2,.int .u8 v3]) rfl (by kernel_rfl) (fun _ _ _ h=>h) (by rfl) (fun w hSw=>?_) hHeld ?_
  ·(try dsimp only at hSw)
   unfold oU0
   go_simp
  try simp only[oU0,Act.put,zA,zB,zC]
  refine tk 1 oU1 (.slice (some ⟨gl,f,none⟩) n c) rfl (by kernel_rfl) (fun _ _ _ h=>h) (by rfl) (fun w hSw=>?_) hHeld ?_
  ·(try dsimp only at hSw)
   unfold oU1
   go_simp
  try simp only[oU1,Act.put,zA,zB,zC]
  refine wpAnyH_ready (rs:=[2]) (by kernel_rfl) (by simp) ?_
  refine AllReadyH.cons (o:=oU2) rfl (fun K hK=>?_) AllReadyH.nil
  unfold oU2
  go_simp
  go_wp2_with fail
  refine((zu SM) _ (by simp[World.drew];omega) (by exact(zu AP).below ((one_more u2 (.cells #[.int .u8 v0,.int .u8 v1,.int .u8 v2,.int .u8 v3] 98)).drew.drew) gu)).mono ?_
  rintro e u3 ⟨rfl,b3⟩
  have B3:=zh (show Below (u2.heap.size+1) (u2.alloc (.cells #[.int .u8 v0,.int .u8 v1,.int .u8 v2,.int .u8 v3] 98)) u3 from by
   have h:=b3.mono (B':=u2.heap.size+1) (by simp[World.drew])
   exact⟨h.os,h.tape,h.output,h.size,h.block⟩)
  have s3:u2.heap.size+1≤u3.heap.size:=by have:=(zu B3).size;simpa using this
  have K3:u3.cell? ⟨u2.heap.size,0,none⟩=some (.int .u8 v0)∧u3.cell? ⟨u2.heap.size,0+1,none⟩=some (.int .u8 v1)∧u3.cell? ⟨u2.heap.size,0+2,none⟩=some (.int .u8 v2)∧u3.cell? ⟨u2.heap.size,0+3,none⟩=some (.int .u8 v3):=⟨((zu B3).cell (p:=⟨u2.heap.size,0,none⟩) (by simp)).trans (by simp),((zu B3).cell (p:=⟨u2.heap.size,0+1,none⟩) (by simp)).trans (by simp),((zu B3).cell (p:=⟨u2.heap.size,0+2,none⟩) (by simp)).trans (by simp),((zu B3).cell (p:=⟨u2.heap.size,0+3,none⟩) (by simp)).trans (by simp)⟩
  clear b3 SM
  go_wp2_with fail
  refine hK.out _ _ K3 (fun hHeld=>?_)
  clear hK K
  try simp only[oU2,Act.put,zA,zB,zC]
  refine tk 3 oU3 (.bool true) rfl (by kernel_rfl) (fun _ _ _ h=>h) (by rfl) (fun w hSw=>?_) hHeld ?_
  ·(try dsimp only at hSw)
   unfold oU3
   go_simp
  try simp only[oU3,Act.put,zA,zB,zC]
  refine wpAnyH_done (by kernel_rfl) ?_ _
  have B4:=zh (show Below w.heap.size w u3 from((zu B2).alloc (by omega) (.cells #[.int .u8 v0,.int .u8 v1,.int .u8 v2,.int .u8 v3] 98)).trans ((zu B3).mono (by omega)))
  have O5:=zh (lit0 u3 w.heap.size (by omega) rfl)
  have B5:=zh ((zu B4).alloc (by omega) (.cells #[] 5))
  go_wp2
  go_ret3
  exact⟨_,0,rfl,zu O5,zu B5⟩
end IUnseal11
end Go.Proofs.YtagmnociflkhcaaGreatDoor
