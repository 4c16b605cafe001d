/- Texts of one proof, one behind the other: App14, SLess14, SCopy14, SRef14, SCom14, IFile14. -/
import Derived.Test.YtagmnociflkhcaaGreatRows
import Derived.Test.YtagmnociflkhcaaGreatQW0
import Derived.Test.YtagmnociflkhcaaGreatQW26
import Derived.Deep.RegionHeld3
import Derived.Maps.AppendAt
set_option linter.unusedVariables false
set_option linter.unusedSimpArgs false
open Go.ChangeShapes Go.WideShapes Go.ChangeAt Go.RowKit
set_option maxRecDepth 100000
set_option maxHeartbeats 32000000
namespace Go.Proofs.YtagmnociflkhcaaGreat
namespace App14
open Fil14 OpensF14 DiskH14 DkH14 SDk14 SOk14 SRd14
theorem kcell{W W':World}{G g:Nat}(k:W.grownBy W' (some G))(o:Nat)(hg:g<W.heap.size)(hG:g≠G):W'.cell? ⟨g,o,none⟩=W.cell? ⟨g,o,none⟩:=
 World.cell?_of_block (w:=W) (k.block g hg (by simpa using hG))
theorem grow_grow{w w1 w2:World}{row:Option Nat}(h:w.grownBy w1 row)(k:w1.grownBy w2 row):w.grownBy w2 row:=
 ⟨k.os.trans h.os,k.tape.trans h.tape,k.output.trans h.output,Nat.le_trans h.size k.size,fun i hi hr=>(k.block i (Nat.lt_of_lt_of_le hi h.size) hr).trans (h.block i hi hr)⟩
theorem grow_app{Wk wr u9:World}{lit:Obj}{row:Option Nat}{G:Nat}(h:Wk.grownBy wr (some G))(k:(wr.drew.alloc lit).grownBy u9 row)(hr:∀j,row=some j→Wk.heap.size≤j):Wk.grownBy u9 (some G):=
 ⟨k.os.trans h.os,k.tape.trans h.tape,k.output.trans h.output,Nat.le_trans h.size (Nat.le_trans (show wr.heap.size≤(wr.drew.alloc lit).heap.size from by show wr.heap.size≤(wr.drew.heap.push lit).size;rw[Array.size_push];exact Nat.le_succ _) k.size),fun i hi hG=>by
  have l:i<wr.drew.heap.size:=Nat.lt_of_lt_of_le hi h.size
  refine(k.block i (by simp;exact Nat.lt_succ_of_lt l) (fun e=>by have:=hr i e.symm;omega)).trans ?_
  exact(Below.heap_alloc wr.drew lit i l).trans (h.block i hi hG)⟩
theorem row_kept{W W':World}{base G:Nat}{e:TypeId}{m:Nat}{v:Value}{n:Nat}{vs:List Value}(h:W.ownsRow base e m v n vs)(k:W.grownBy W' (some G))(hG:G<base):W'.ownsRow base e m v n vs:=
 World.ownsRow.kept h k (by
  cases hb:v.ownBlock with
  |none=>exact .inl rfl
  |some g=>exact .inr (fun e=>by have:=(World.ownsRow.lt h g hb).1;injection e with e;omega))
theorem step_app(u:World){ops:Array Oper}{o:Oper}{a:Act}{K:Act→World→Prop}{Q:Exit→Act→World→Prop}{E:Prop}(hgd:o.guard=none)(s x:Operand)(t e:TypeId)
  (ho:o.op= .call {callee:= .builtin .append,args:= #[s,x],argTypes:= #[t,t]})(z:Value)(size bytes:Nat)(ht:Tryz.prog.underlying t=some (.slice e))(hi:(Tryz.prog.info? e).map (fun i=>(i.zero,i.size,i.bytes))=some (some z,size,bytes))(hzs:z.cells.size=size)(hsz:0<size)(hby:bytes≤64)
  (base:Nat)(v:Value)(n:Nat)(xs:List Value)(vb:Nat)(news:List Value)(hs:a.eval s=v)(hx:a.eval x= .slice (some ⟨vb,0,none⟩) 1 1)(hown:u.ownsRow base e size v n xs)(hl:news.length=size)(hc:∀j w,news[j]?=some w→u.cell? ⟨vb,j,none⟩=some w)(h1:∀w∈news,w.oneCell'=true)(hn:n≤1048576)(hb:base≤u.heap.size)
  (h:∀g' c' w',w'.ownsRow base e size (.slice (some ⟨g',0,none⟩) (n+1) c') (n+1) (xs++news)→u.grownBy w' v.ownBlock→K (a.put o.dst (.slice (some ⟨g',0,none⟩) (n+1) c')) w'):if Region.wanted o (yielded ops a.tmps)=true then Oper.wp Tryz.prog o a u K Q else E:=by
 obtain⟨i0,hi,hz0,hz1,hz2⟩:=info_parts hi
 have hw:Region.wanted o (yielded ops a.tmps)=true:=by simp[Region.wanted,hgd]
 rw[if_pos hw]
 obtain⟨v',w',hr,own',gr',nil',loc'⟩:=run_append_own_at (P:=Tryz.prog) u base t o.type e i0 z size bytes ht hi hz0 hz1 hz2 hzs hsz v n xs hown ⟨vb,0,none⟩ 1 1 news (by omega) (fun j w hj=>by rw[Addr.add_lit,Nat.zero_add];exact hc j w hj) h1 (by unfold maxLen;omega) (by have:(n+1)*bytes≤1048577*64:=Nat.mul_le_mul (by omega) hby;omega) hb
 unfold Oper.wp execOp
 simp only[ho,resolve,invoke,builtin,Sem.run_bind,Sem.run_pure,Result.andThen_ok,List.map_toArray,List.map_cons,List.map_nil,hs,hx,hr]
 rcases own'.2 with⟨e1,_⟩|⟨g',c',cur,rfl,_⟩
 ·rw[e1] at nil';simp at nil'
 ·exact h g' c' w' own' gr'
theorem row_base{W:World}{base base':Nat}{e:TypeId}{m:Nat}{v:Value}{n:Nat}{vs:List Value}(h:W.ownsRow base e m v n vs)(hb:base'≤base):W.ownsRow base' e m v n vs:=
 ⟨h.1,by
  rcases h.2 with h|⟨g,c,cur,h1,h2,h3⟩
  ·exact .inl h
  ·exact .inr ⟨g,c,cur,h1,Nat.le_trans hb h2,h3⟩⟩
theorem litm(u:World)(news:List Value)(e:TypeId)(arr:Array Value)(h:arr=news.toArray):∀j w,news[j]?=some w→(u.alloc (.cells arr e)).cell? ⟨u.heap.size,j,none⟩=some w:=by
 subst h
 intro j w hj
 simpa using hj
theorem flat_1(ps:List TF)(p:TF):flatF (ps++[p])=flatF ps++[.int .i64 p.1,.string p.2.1,.string p.2.2]:=by simp[flatF]
end App14
namespace SLess14
open Fil14 OpensF14 DiskH14 DkH14 SDk14 SOk14 SRd14 App14
open DkH14 (row_step)
def lessN(ps:List TF)(nm:Int):Nat→List TF
 |0=>[]
 |k+1=>if(k:Int)=nm then lessN ps nm k else lessN ps nm k++[elF ps k]
theorem grow_low{B:Nat}{w W W':World}{G:Nat}(h:Below B w W)(k:W.grownBy W' (some G))(hB:B≤G∧B≤W.heap.size):Below B w W':=
 ⟨k.os.trans h.os,k.tape.trans h.tape,k.output.trans h.output,Nat.le_trans h.size k.size,fun i hi=>(k.block i (by omega) (by simp;omega)).trans (h.block i hi)⟩
theorem bc_set1{w:World}{base g:Nat}{v0 v1:Value}(h:Bc w base g v0 v1)(u:Value):Bc (w.setCell ⟨g,1,none⟩ u) base g v0 u∧w.grownBy (w.setCell ⟨g,1,none⟩ u) (some g):=World.ownsRow.stored h 1 u
abbrev oL0:Oper:={dst:=some 20,op:=Go.Op.fieldAddr 52 (Go.Operand.tmp 5) 1,type:=0,pos:= "l14_disk.go:72",after:= #[],guard:=none}
abbrev oL1:Oper:={dst:=some 21,op:=Go.Op.load 50 (Go.Operand.tmp 20),type:=50,pos:= "l14_disk.go:72",after:= #[{on:=0,ground:=Go.Ground.data}],guard:=none}
abbrev oL2:Oper:={dst:=some 22,op:=Go.Op.fieldAddr 52 (Go.Operand.tmp 2) 1,type:=0,pos:= "l14_disk.go:72",after:= #[],guard:=none}
abbrev oL3:Oper:={dst:=some 23,op:=Go.Op.load 50 (Go.Operand.tmp 22),type:=50,pos:= "l14_disk.go:72",after:= #[{on:=2,ground:=Go.Ground.data}],guard:=none}
abbrev oL4:Oper:={dst:=some 24,op:=Go.Op.move (Go.Operand.tmp 6),type:=3,pos:= "l14_disk.go:72",after:= #[],guard:=none}
abbrev oL5:Oper:={dst:=some 25,op:=Go.Op.indexAddr 50 (Go.Operand.tmp 23) (Go.Operand.tmp 24),type:=0,pos:= "l14_disk.go:72",after:= #[{on:=3,ground:=Go.Ground.data},{on:=4,ground:=Go.Ground.data}],guard:=none}
abbrev oL6:Oper:={dst:=some 26,op:=Go.Op.load 120 (Go.Operand.tmp 25),type:=120,pos:= "l14_disk.go:72",after:= #[{on:=5,ground:=Go.Ground.data}],guard:=none}
abbrev oL7:Oper:={dst:=some 27,op:=Go.Op.buildSlice 50 1 #[(0,Go.Operand.tmp 26)],type:=50,pos:= "l14_disk.go:72",after:= #[{on:=6,ground:=Go.Ground.data}],guard:=none}
abbrev oL8:Oper:={dst:=some 28,op:=Go.Op.call {callee:=Go.Callee.builtin Go.Builtin.append,args:= #[Go.Operand.tmp 21,Go.Operand.tmp 27],argTypes:= #[50,50]},type:=50,pos:= "l14_disk.go:72",after:= #[{on:=1,ground:=Go.Ground.data},{on:=7,ground:=Go.Ground.data}],guard:=none}
abbrev oL9:Oper:={dst:=some 29,op:=Go.Op.fieldAddr 52 (Go.Operand.tmp 5) 1,type:=0,pos:= "l14_disk.go:72",after:= #[{on:=0,ground:=Go.Ground.phase},{on:=1,ground:=Go.Ground.phase},{on:=2,ground:=Go.Ground.phase},{on:=3,ground:=Go.Ground.phase},{on:=4,ground:=Go.Ground.phase},{on:=5,ground:=Go.Ground.phase},{on:=6,ground:=Go.Ground.phase},{on:=7,ground:=Go.Ground.phase},{on:=8,ground:=Go.Ground.phase}],guard:=none}
abbrev oL10:Oper:={dst:=none,op:=Go.Op.store 50 (Go.Operand.tmp 29) (Go.Operand.tmp 28),type:=0,pos:= "l14_disk.go:72",after:= #[{on:=9,ground:=Go.Ground.data},{on:=8,ground:=Go.Ground.data},{on:=8,ground:=Go.Ground.chain},{on:=0,ground:=Go.Ground.phase},{on:=1,ground:=Go.Ground.phase},{on:=2,ground:=Go.Ground.phase},{on:=3,ground:=Go.Ground.phase},{on:=4,ground:=Go.Ground.phase},{on:=5,ground:=Go.Ground.phase},{on:=6,ground:=Go.Ground.phase},{on:=7,ground:=Go.Ground.phase},{on:=8,ground:=Go.Ground.phase}],guard:=none}
theorem sLess(w:World)(x:Dx)(nm:Int)(hr:RdD w x):
  Calls Tryz.prog 37 #[.agg #[.int .i64 x.room,.slice x.a x.ps.length x.c],.int .i64 nm] w fun e w'=>∃y:Dx,y.room=x.room∧y.ps=lessN x.ps nm x.ps.length∧e= .returned (.agg #[.int .i64 y.room,.slice y.a y.ps.length y.c])∧OwD w' w.heap.size y∧Below w.heap.size w w':=by
 have F:∀W1,W1=w.alloc (.cells #[.int .i64 x.room,.slice x.a x.ps.length x.c] 52)→∀W2,W2=W1.alloc (.cells #[.int .i64 0,.slice none 0 0] 52)→∀W3,W3=W2.alloc (.cells #[.int .i64 x.room,.slice none 0 0] 52)→
   Wd w W3 x∧Bc W3 w.heap.size (w.heap.size+1) (.int .i64 0) (.slice none 0 0)∧Bc W3 w.heap.size (w.heap.size+1+1) (.int .i64 x.room) (.slice none 0 0)∧W3.heap.size=w.heap.size+3:=by
  intro W1 h1 W2 h2 W3 h3
  have s1:W1.heap.size=w.heap.size+1:=by rw[h1];simp
  have s2:W2.heap.size=w.heap.size+1+1:=by rw[h2];simp[s1]
  have s3:W3.heap.size=w.heap.size+3:=by rw[h3];simp[s2]
  have d1:Wd w W1 x:=by rw[h1];exact Wd.made hr _
  have b2:Below W1.heap.size W1 W2:=by rw[h2];exact one_more _ _
  have b3:Below W2.heap.size W2 W3:=by rw[h3];exact one_more _ _
  have R1:Bc W2 w.heap.size (w.heap.size+1) (.int .i64 0) (.slice none 0 0):=by rw[h2];exact Bc.made _ _ (by omega) s1.symm
  have O1:Bc W3 w.heap.size (w.heap.size+1+1) (.int .i64 x.room) (.slice none 0 0):=by rw[h3];exact Bc.made _ _ (by omega) s2.symm
  exact⟨(d1.step b2).step b3,R1.below b3 (by omega),O1,s3⟩
 have G0:=zh (F _ rfl _ rfl _ rfl)
 have G1:=zh (fun g e=>(hr.r g e).1)
 have h20:=hr.n
 clear F hr
 go_enter Tryz.func37,Tryz.ntmps37
 go_wp2_with fail
 generalize ((w.alloc (.cells #[.int .i64 x.room,.slice x.a x.ps.length x.c] 52)).alloc (.cells #[.int .i64 0,.slice none 0 0] 52)).alloc (.cells #[.int .i64 x.room,.slice none 0 0] 52)=W at *
 obtain⟨WD,RB,OB,s3⟩:=zu G0
 have HWD:=zh WD
 have HRB:=zh RB
 clear G0 WD RB
 go_loopw [6] (fun i wr=>∃(k m c:Nat) (a:Option Addr),i= .int .i64 k∧k≤x.ps.length∧m≤k∧Hid (W.grownBy wr (some (w.heap.size+1+1)))∧Hid (Bc wr w.heap.size (w.heap.size+1+1) (.int .i64 x.room) (.slice a m c))∧Hid (wr.ownsRow W.heap.size 120 3 (.slice a m c) m (flatF (lessN x.ps nm k)))) (fun i _=>x.ps.length-(intOf i).toNat)
 case atStart=>exact⟨0,0,0,none,rfl,by omega,by omega,zh (World.grownBy.refl _ _),zh OB,zh ⟨rfl,.inl ⟨rfl,rfl⟩⟩⟩
 case round=>
  clear OB
  obtain⟨k,m,c,a,rfl,hk,hm,GR,BX,OW⟩:=hrel
  have gs:=(zu GR).size
  have lt:w.heap.size+2<wr.heap.size:=by omega
  have c1:=(kcell (zu GR) 1 (show w.heap.size<W.heap.size from by omega) (by omega)).trans (zu HWD).c1
  by_cases t:k<x.ps.length
  ·have kt:(k:Int)<x.ps.length:=by omega
   by_cases q:(k:Int)=nm
   ·have TK:=zh (show lessN x.ps nm (k+1)=lessN x.ps nm k from if_pos q)
    subst q
    go_wp2
    go_roundw
    case rel=>exact⟨k+1,m,c,a,by go_num,by omega,by omega,GR,BX,zh (by rw[zu TK];exact zu OW)⟩
    case measure=>simp[intOf];omega
   ·have TK:=zh (show lessN x.ps nm (k+1)=lessN x.ps nm k++[elF x.ps k] from if_neg q)
    obtain⟨g,ea,lg,e0,e1,e2⟩:=cells_of (zu HWD).r t
    have lg0:=(zu G1) g ea
    have gn:g≠w.heap.size+1+1:=by omega
    have d0:=(kcell (zu GR) (k*3) lg gn).trans e0
    have d1:=(kcell (zu GR) (k*3+1) lg gn).trans e1
    have d2:=(kcell (zu GR) (k*3+2) lg gn).trans e2
    rw[ea] at c1
    generalize hp:elF x.ps k=p at *
    obtain⟨z0,z1,z2⟩:=p
    simp only at d0 d1 d2
    clear e0 e1 e2 ea hp
    have K0:wr.cell? ⟨w.heap.size,1,none⟩=some (.slice (some ⟨g,0,none⟩) x.ps.length x.c)∧wr.cell? ⟨g,k*3,none⟩=some (.int .i64 z0)∧wr.cell? ⟨g,k*3+1,none⟩=some (.string z1)∧wr.cell? ⟨g,k*3+2,none⟩=some (.string z2):=⟨c1,d0,d1,d2⟩
    have KB:(wr.drew.alloc (.cells #[.int .i64 z0,.string z1,.string z2] 120)).cell? ⟨w.heap.size,1,none⟩=some (.slice (some ⟨g,0,none⟩) x.ps.length x.c)∧(wr.drew.alloc (.cells #[.int .i64 z0,.string z1,.string z2] 120)).cell? ⟨g,k*3,none⟩=some (.int .i64 z0)∧(wr.drew.alloc (.cells #[.int .i64 z0,.string z1,.string z2] 120)).cell? ⟨g,k*3+1,none⟩=some (.string z1)∧(wr.drew.alloc (.cells #[.int .i64 z0,.string z1,.string z2] 120)).cell? ⟨g,k*3+2,none⟩=some (.string z2):=⟨((one_more wr.drew (.cells #[.int .i64 z0,.string z1,.string z2] 120)).cell (p:=⟨w.heap.size,1,none⟩) (show w.heap.size<wr.heap.size from by omega)).trans c1,((one_more wr.drew (.cells #[.int .i64 z0,.string z1,.string z2] 120)).cell (p:=⟨g,k*3,none⟩) (show g<wr.heap.size from by omega)).trans d0,((one_more wr.drew (.cells #[.int .i64 z0,.string z1,.string z2] 120)).cell (p:=⟨g,k*3+1,none⟩) (show g<wr.heap.size from by omega)).trans d1,((one_more wr.drew (.cells #[.int .i64 z0,.string z1,.string z2] 120)).cell (p:=⟨g,k*3+2,none⟩) (show g<wr.heap.size from by omega)).trans d2⟩
    have bc:=(zu BX).c1
    have bcD:wr.drew.cell? ⟨w.heap.size+1+1,1,none⟩=some (.slice a m c):=bc
    have bcA:(wr.alloc (.cells #[.int .i64 z0,.string z1,.string z2] 120)).cell? ⟨w.heap.size+1+1,1,none⟩=some (.slice a m c):=((one_more wr.drew (.cells #[.int .i64 z0,.string z1,.string z2] 120)).cell (p:=⟨w.heap.size+1+1,1,none⟩) (show w.heap.size+1+1<wr.heap.size from by omega)).trans bc
    go_wp2_with fail
    refine wp_region_held_drew (S:=(fun w'=>w'.cell? ⟨w.heap.size,1,none⟩=some (.slice (some ⟨g,0,none⟩) x.ps.length x.c)∧w'.cell? ⟨g,k*3,none⟩=some (.int .i64 z0)∧w'.cell? ⟨g,k*3+1,none⟩=some (.string z1)∧w'.cell? ⟨g,k*3+2,none⟩=some (.string z2))) (by kernel_rfl) K0 (fun hHeld=>?_)
    refine tk 0 oL0 (.pointer (some ⟨w.heap.size+1+1,1,none⟩)) rfl (by kernel_rfl) (fun _ _ _ h=>h) (by rfl) (fun w hSw=>?_) hHeld ?_
    ·(try dsimp only at hSw)
     unfold oL0
     go_simp
    try simp only[oL0,Act.put,zA,zB,zC]
    refine tk 2 oL2 (.pointer (some ⟨w.heap.size,1,none⟩)) rfl (by kernel_rfl) (fun _ _ _ h=>h) (by rfl) (fun w hSw=>?_) hHeld ?_
    ·(try dsimp only at hSw)
     unfold oL2
     go_simp
    try simp only[oL2,Act.put,zA,zB,zC]
    refine tk 3 oL3 (.slice (some ⟨g,0,none⟩) x.ps.length x.c) rfl (by kernel_rfl) (fun _ _ _ h=>h) (by rfl) (fun w hSw=>?_) hHeld ?_
    ·(try dsimp only at hSw)
     unfold oL3
     go_simp
    try simp only[oL3,Act.put,zA,zB,zC]
    refine tk 4 oL4 (.int .i64 k) rfl (by kernel_rfl) (fun _ _ _ h=>h) (by rfl) (fun w hSw=>?_) hHeld ?_
    ·(try dsimp only at hSw)
     unfold oL4
     go_simp
    try simp only[oL4,Act.put,zA,zB,zC]
    refine tk 5 oL5 (.pointer (some ⟨g,k*3,none⟩)) rfl (by kernel_rfl) (fun _ _ _ h=>h) (by rfl) (fun w hSw=>?_) hHeld ?_
    ·(try dsimp only at hSw)
     unfold oL5
     go_simp
    try simp only[oL5,Act.put,zA,zB,zC]
    refine tk 6 oL6 (.agg #[.int .i64 z0,.string z1,.string z2]) rfl (by kernel_rfl) (fun _ _ _ h=>h) (by rfl) (fun w hSw=>?_) hHeld ?_
    ·(try dsimp only at hSw)
     unfold oL6
     go_simp
    try simp only[oL6,Act.put,zA,zB,zC]
    refine wpAnyH_ready (rs:=[1,7]) (by kernel_rfl) (by simp) ?_
    refine AllReadyH.cons (o:=oL1) rfl (fun K hK=>?_) (AllReadyH.cons (o:=oL7) rfl (fun K hK=>?_) AllReadyH.nil)
    ·unfold oL1
     go_simp
     refine hK.out _ _ K0 (fun hHeld=>?_)
     clear hK K
     try simp only[oL1,Act.put,zA,zB,zC]
     refine wpAnyH_ready (rs:=[7]) (by kernel_rfl) (by simp) ?_
     refine AllReadyH.cons (o:=oL7) rfl (fun K hK=>?_) AllReadyH.nil
     unfold oL7
     go_simp
     refine hK.out _ _ KB (fun hHeld=>?_)
     clear hK K
     try simp only[oL7,Act.put,zA,zB,zC]
     refine wpAnyH_ready (rs:=[8]) (by kernel_rfl) (by simp) ?_
     refine AllReadyH.cons (o:=oL8) rfl (fun K hK=>?_) AllReadyH.nil
     refine step_app (wr.drew.alloc (.cells #[.int .i64 z0,.string z1,.string z2] 120)) (by rfl) _ _ 50 120 (by rfl) (.agg #[.int .i64 0,.string ByteArray.empty,.string ByteArray.empty]) 3 40 Tryz.underlying50 HelpF14.info2 rfl (by decide) (by decide) W.heap.size (.slice a m c) m (flatF (lessN x.ps nm k)) wr.drew.heap.size [.int .i64 z0,.string z1,.string z2] (by rfl) (by rfl) (row_step (W:=wr.drew) (zu OW) (one_more wr.drew (.cells #[.int .i64 z0,.string z1,.string z2] 120))) rfl (litm wr.drew _ _ _ (by rfl)) (by simp[Value.oneCell']) (by omega) (Nat.le_trans (show W.heap.size≤wr.drew.heap.size from gs) (by simp)) ?_
     intro g9 c9 u9 o9 gr9
     have BL:∀j,(Value.slice a m c).ownBlock=some j→W.heap.size≤j:=fun j hj=>(World.ownsRow.lt (zu OW) j hj).1
     have GR9:=zh (grow_app (zu GR) gr9 BL)
     have NG:some (w.heap.size+1+1)≠(Value.slice a m c).ownBlock:=fun e=>by have:=BL _ e.symm;omega
     have BX9:=zh (((show Bc wr.drew w.heap.size (w.heap.size+1+1) (.int .i64 x.room) (.slice a m c) from zu BX).below (one_more wr.drew (.cells #[.int .i64 z0,.string z1,.string z2] 120)) (show w.heap.size+1+1<wr.heap.size from by omega)).kept gr9 NG)
     have O9:=zh o9
     have fr9:u9.frozen? ⟨w.heap.size+1+1,1,none⟩=false:=(zu BX9).free 1
     have bc9:=(zu BX9).c1
     have g9l:=(World.ownsRow.lt o9 g9 rfl).1
     have gs9:=(zu GR9).size
     have KC:u9.cell? ⟨w.heap.size,1,none⟩=some (.slice (some ⟨g,0,none⟩) x.ps.length x.c)∧u9.cell? ⟨g,k*3,none⟩=some (.int .i64 z0)∧u9.cell? ⟨g,k*3+1,none⟩=some (.string z1)∧u9.cell? ⟨g,k*3+2,none⟩=some (.string z2):=⟨gr9.cell KB.1 (fun e=>by have:=BL _ e.symm;simp only at this;omega),gr9.cell KB.2.1 (fun e=>by have:=BL _ e.symm;simp only at this;omega),gr9.cell KB.2.2.1 (fun e=>by have:=BL _ e.symm;simp only at this;omega),gr9.cell KB.2.2.2 (fun e=>by have:=BL _ e.symm;simp only at this;omega)⟩
     have SB:=bc_set1 (zu BX9) (.slice (some ⟨g9,0,none⟩) (m+1) c9)
     have SB2:=zh SB
     have KD:(u9.setCell ⟨w.heap.size+1+1,1,none⟩ (.slice (some ⟨g9,0,none⟩) (m+1) c9)).cell? ⟨w.heap.size,1,none⟩=some (.slice (some ⟨g,0,none⟩) x.ps.length x.c)∧(u9.setCell ⟨w.heap.size+1+1,1,none⟩ (.slice (some ⟨g9,0,none⟩) (m+1) c9)).cell? ⟨g,k*3,none⟩=some (.int .i64 z0)∧(u9.setCell ⟨w.heap.size+1+1,1,none⟩ (.slice (some ⟨g9,0,none⟩) (m+1) c9)).cell? ⟨g,k*3+1,none⟩=some (.string z1)∧(u9.setCell ⟨w.heap.size+1+1,1,none⟩ (.slice (some ⟨g9,0,none⟩) (m+1) c9)).cell? ⟨g,k*3+2,none⟩=some (.string z2):=⟨(kcell SB.2 (1) (show w.heap.size<u9.heap.size from by omega) (show w.heap.size≠w.heap.size+1+1 from by omega)).trans KC.1,(kcell SB.2 (k*3) (show g<u9.heap.size from by omega) gn).trans KC.2.1,(kcell SB.2 (k*3+1) (show g<u9.heap.size from by omega) gn).trans KC.2.2.1,(kcell SB.2 (k*3+2) (show g<u9.heap.size from by omega) gn).trans KC.2.2.2⟩
     clear o9 SB
     refine hK.out _ _ KC (fun hHeld=>?_)
     clear hK K
     try simp only[oL8,Act.put,zA,zB,zC]
     refine tk 9 oL9 (.pointer (some ⟨w.heap.size+1+1,1,none⟩)) rfl (by kernel_rfl) (fun _ _ _ h=>h) (by rfl) (fun w hSw=>?_) hHeld ?_
     ·(try dsimp only at hSw)
      unfold oL9
      go_simp
     try simp only[oL9,Act.put,zA,zB,zC]
     refine wpAnyH_ready (rs:=[10]) (by kernel_rfl) (by simp) ?_
     refine AllReadyH.cons (o:=oL10) rfl (fun K hK=>?_) AllReadyH.nil
     unfold oL10
     go_simp
     refine hK.out _ _ KD (fun hHeld=>?_)
     clear hK K
     try simp only[oL10,Act.put,zA,zB,zC]
     refine wpAnyH_done (by kernel_rfl) ?_ _
     clear K0 KB KC KD gr9 bc bcD bcA bc9 fr9
     have GRS:=zh (grow_grow (zu GR9) (zu SB2).2)
     have BXS:=zh (zu SB2).1
     have OWS:=zh (row_kept (zu O9) (zu SB2).2 (by omega))
     clear SB2
     go_wp2
     go_roundw
     case rel=>exact⟨k+1,m+1,c9,some ⟨g9,0,none⟩,by go_num,by omega,by omega,GRS,BXS,zh (by have h:=zu OWS;rw[zu TK];rw[flat_1];exact h)⟩
     case measure=>simp[intOf];omega
    ·unfold oL7
     go_simp
     refine hK.out _ _ KB (fun hHeld=>?_)
     clear hK K
     try simp only[oL7,Act.put,zA,zB,zC]
     refine wpAnyH_ready (rs:=[1]) (by kernel_rfl) (by simp) ?_
     refine AllReadyH.cons (o:=oL1) rfl (fun K hK=>?_) AllReadyH.nil
     unfold oL1
     go_simp
     refine hK.out _ _ KB (fun hHeld=>?_)
     clear hK K
     try simp only[oL1,Act.put,zA,zB,zC]
     refine wpAnyH_ready (rs:=[8]) (by kernel_rfl) (by simp) ?_
     refine AllReadyH.cons (o:=oL8) rfl (fun K hK=>?_) AllReadyH.nil
     refine step_app (wr.drew.alloc (.cells #[.int .i64 z0,.string z1,.string z2] 120)) (by rfl) _ _ 50 120 (by rfl) (.agg #[.int .i64 0,.string ByteArray.empty,.string ByteArray.empty]) 3 40 Tryz.underlying50 HelpF14.info2 rfl (by decide) (by decide) W.heap.size (.slice a m c) m (flatF (lessN x.ps nm k)) wr.drew.heap.size [.int .i64 z0,.string z1,.string z2] (by rfl) (by rfl) (row_step (W:=wr.drew) (zu OW) (one_more wr.drew (.cells #[.int .i64 z0,.string z1,.string z2] 120))) rfl (litm wr.drew _ _ _ (by rfl)) (by simp[Value.oneCell']) (by omega) (Nat.le_trans (show W.heap.size≤wr.drew.heap.size from gs) (by simp)) ?_
     intro g9 c9 u9 o9 gr9
     have BL:∀j,(Value.slice a m c).ownBlock=some j→W.heap.size≤j:=fun j hj=>(World.ownsRow.lt (zu OW) j hj).1
     have GR9:=zh (grow_app (zu GR) gr9 BL)
     have NG:some (w.heap.size+1+1)≠(Value.slice a m c).ownBlock:=fun e=>by have:=BL _ e.symm;omega
     have BX9:=zh (((show Bc wr.drew w.heap.size (w.heap.size+1+1) (.int .i64 x.room) (.slice a m c) from zu BX).below (one_more wr.drew (.cells #[.int .i64 z0,.string z1,.string z2] 120)) (show w.heap.size+1+1<wr.heap.size from by omega)).kept gr9 NG)
     have O9:=zh o9
     have fr9:u9.frozen? ⟨w.heap.size+1+1,1,none⟩=false:=(zu BX9).free 1
     have bc9:=(zu BX9).c1
     have g9l:=(World.ownsRow.lt o9 g9 rfl).1
     have gs9:=(zu GR9).size
     have KC:u9.cell? ⟨w.heap.size,1,none⟩=some (.slice (some ⟨g,0,none⟩) x.ps.length x.c)∧u9.cell? ⟨g,k*3,none⟩=some (.int .i64 z0)∧u9.cell? ⟨g,k*3+1,none⟩=some (.string z1)∧u9.cell? ⟨g,k*3+2,none⟩=some (.string z2):=⟨gr9.cell KB.1 (fun e=>by have:=BL _ e.symm;simp only at this;omega),gr9.cell KB.2.1 (fun e=>by have:=BL _ e.symm;simp only at this;omega),gr9.cell KB.2.2.1 (fun e=>by have:=BL _ e.symm;simp only at this;omega),gr9.cell KB.2.2.2 (fun e=>by have:=BL _ e.symm;simp only at this;omega)⟩
     have SB:=bc_set1 (zu BX9) (.slice (some ⟨g9,0,none⟩) (m+1) c9)
     have SB2:=zh SB
     have KD:(u9.setCell ⟨w.heap.size+1+1,1,none⟩ (.slice (some ⟨g9,0,none⟩) (m+1) c9)).cell? ⟨w.heap.size,1,none⟩=some (.slice (some ⟨g,0,none⟩) x.ps.length x.c)∧(u9.setCell ⟨w.heap.size+1+1,1,none⟩ (.slice (some ⟨g9,0,none⟩) (m+1) c9)).cell? ⟨g,k*3,none⟩=some (.int .i64 z0)∧(u9.setCell ⟨w.heap.size+1+1,1,none⟩ (.slice (some ⟨g9,0,none⟩) (m+1) c9)).cell? ⟨g,k*3+1,none⟩=some (.string z1)∧(u9.setCell ⟨w.heap.size+1+1,1,none⟩ (.slice (some ⟨g9,0,none⟩) (m+1) c9)).cell? ⟨g,k*3+2,none⟩=some (.string z2):=⟨(kcell SB.2 (1) (show w.heap.size<u9.heap.size from by omega) (show w.heap.size≠w.heap.size+1+1 from by omega)).trans KC.1,(kcell SB.2 (k*3) (show g<u9.heap.size from by omega) gn).trans KC.2.1,(kcell SB.2 (k*3+1) (show g<u9.heap.size from by omega) gn).trans KC.2.2.1,(kcell SB.2 (k*3+2) (show g<u9.heap.size from by omega) gn).trans KC.2.2.2⟩
     clear o9 SB
     refine hK.out _ _ KC (fun hHeld=>?_)
     clear hK K
     try simp only[oL8,Act.put,zA,zB,zC]
     refine tk 9 oL9 (.pointer (some ⟨w.heap.size+1+1,1,none⟩)) rfl (by kernel_rfl) (fun _ _ _ h=>h) (by rfl) (fun w hSw=>?_) hHeld ?_
     ·(try dsimp only at hSw)
      unfold oL9
      go_simp
     try simp only[oL9,Act.put,zA,zB,zC]
     refine wpAnyH_ready (rs:=[10]) (by kernel_rfl) (by simp) ?_
     refine AllReadyH.cons (o:=oL10) rfl (fun K hK=>?_) AllReadyH.nil
     unfold oL10
     go_simp
     refine hK.out _ _ KD (fun hHeld=>?_)
     clear hK K
     try simp only[oL10,Act.put,zA,zB,zC]
     refine wpAnyH_done (by kernel_rfl) ?_ _
     clear K0 KB KC KD gr9 bc bcD bcA bc9 fr9
     have GRS:=zh (grow_grow (zu GR9) (zu SB2).2)
     have BXS:=zh (zu SB2).1
     have OWS:=zh (row_kept (zu O9) (zu SB2).2 (by omega))
     clear SB2
     go_wp2
     go_roundw
     case rel=>exact⟨k+1,m+1,c9,some ⟨g9,0,none⟩,by go_num,by omega,by omega,GRS,BXS,zh (by have h:=zu OWS;rw[zu TK];rw[flat_1];exact h)⟩
     case measure=>simp[intOf];omega
  ·have e:k=x.ps.length:=by omega
   subst e
   have B0:=(zu BX).c0
   have B1:=(zu BX).c1
   have Rk:=zh ((zu HRB).kept (zu GR) (by simp))
   have f0:=(zu Rk).free 0
   have f1:=(zu Rk).free 1
   have r0:=(zu Rk).c0
   have r1:=(zu Rk).c1
   have lm:(lessN x.ps nm x.ps.length).length=m:=by
    have:=(zu OW).1
    rw[flatF_len] at this
    omega
   have LM:=zh lm
   have OR:=zh (row_base (zu OW) (show w.heap.size≤W.heap.size from by omega))
   have LB:=zh (show ∀j,(Value.slice a m c).ownBlock=some j→w.heap.size+3≤j from fun j hj=>by have:=(World.ownsRow.lt (zu OW) j hj).1;omega)
   have s0:=(zu Rk).set0 (.int .i64 x.room)
   have s1:=bc_set1 s0.1 (.slice a m c)
   have ST:=zh (grow_grow s0.2 s1.2)
   have BB:=zh ((zu HWD).b)
   clear lm s0 s1
   go_wp2
   refine bodyPost_ret (v:= .agg #[.int .i64 x.room,.slice a m c]) (by simp[results,Tryz.results37,go_sem,r0,r1]) rfl ⟨⟨x.room,a,c,lessN x.ps nm x.ps.length⟩,rfl,rfl,by simp[zu LM],?_,?_⟩
   ·unfold OwD
    simp only[zu LM]
    exact World.ownsRow.kept (zu OR) (zu ST) (by
     cases hb:(Value.slice a m c).ownBlock with
     |none=>exact .inl rfl
     |some g=>exact .inr (fun e=>by have:=(zu LB) g hb;injection e with e;omega))
   ·have k:=grow_low (zu BB) (zu GR) (by omega)
    exact grow_low k (zu ST) (by omega)
end SLess14
namespace SCopy14
open Fil14 OpensF14 DiskH14 DkH14 SDk14 SOk14 SRd14 App14 SLess14
open DkH14 (row_step)
theorem step_many(u:World){ops:Array Oper}{o:Oper}{a:Act}{K:Act→World→Prop}{Q:Exit→Act→World→Prop}{E:Prop}(hgd:o.guard=none)(s x:Operand)
  (ho:o.op= .call {callee:= .builtin .append,args:= #[s,x],argTypes:= #[50,50]})(base g n cap:Nat)(ps qs:List TF)(xa:Option Addr)(xc:Nat)(hs:a.eval s= .slice (some ⟨g,0,none⟩) n cap)(hx:a.eval x= .slice xa qs.length xc)(hown:OwnF 120 u base g n cap ps)(hq:qs.length=0∨∃vb,xa=some ⟨vb,0,none⟩∧AtF u vb qs)(hn:n≤1048576)(hm:qs.length≤1048576)(hb:base≤u.heap.size)
  (h:∀g' c' w',OwnF 120 w' base g' (n+qs.length) c' (ps++qs)→u.grownBy w' (some g)→(g'=g∨g'=u.heap.size)→K (a.put o.dst (.slice (some ⟨g',0,none⟩) (n+qs.length) c')) w'):if Region.wanted o (yielded ops a.tmps)=true then Oper.wp Tryz.prog o a u K Q else E:=by
 obtain⟨i0,hi,hz0,hz1,hz2⟩:=info_parts HelpF14.info2
 have hw:Region.wanted o (yielded ops a.tmps)=true:=by simp[Region.wanted,hgd]
 rw[if_pos hw]
 rcases hq with hq|⟨vb,rfl,hq⟩
 ·have e:qs=[]:=List.length_eq_zero_iff.1 hq
  subst e
  obtain⟨hle,hcap⟩:n≤cap∧True:=by
   rcases hown.2 with⟨h1,_⟩|⟨g',c,cur,h1,h2,h3,h4,_⟩
   ·simp at h1
   ·obtain⟨_,e2⟩:g=g'∧cap=c:=by simpa using h1
    exact⟨by omega,trivial⟩
  have hr:(Builtin.append_ #[50,50] o.type #[.slice (some ⟨g,0,none⟩) n cap,.slice xa 0 xc]).run Tryz.prog u= .ok (.slice (some ⟨g,0,none⟩) n cap) u:=by
   cases xa<;>simp[Builtin.append_,run_underlying Tryz.underlying50,sizeOf,typeInfo,hi,hle,storeCells,go_sem]
  unfold Oper.wp execOp
  simp only[List.length_nil] at hx
  simp only[ho,resolve,invoke,builtin,Sem.run_bind,Sem.run_pure,Result.andThen_ok,List.map_toArray,List.map_cons,List.map_nil,hs,hx,hr]
  have:=h g cap u (by simpa using hown) (World.grownBy.refl _ _) (.inl rfl)
  simp only[List.length_nil,Nat.add_zero] at this
  exact this
 ·obtain⟨v',w',hr,own',gr',nil',loc'⟩:=run_append_own_at (P:=Tryz.prog) u base 50 o.type 120 i0 (.agg #[.int .i64 0,.string ByteArray.empty,.string ByteArray.empty]) 3 40 Tryz.underlying50 hi hz0 hz1 hz2 rfl (by decide) (.slice (some ⟨g,0,none⟩) n cap) n (flatF ps) hown ⟨vb,0,none⟩ qs.length xc (flatF qs) (flatF_len qs) hq.cells (fun u hu=>flatF_one u qs hu) (by unfold maxLen;omega) (by omega) hb
  unfold Oper.wp execOp
  simp only[ho,resolve,invoke,builtin,Sem.run_bind,Sem.run_pure,Result.andThen_ok,List.map_toArray,List.map_cons,List.map_nil,hs,hx,hr]
  rw[←flatF_append] at own'
  rcases own'.2 with⟨e1,_⟩|⟨g',c',cur,rfl,_⟩
  ·rw[e1] at nil';simp at nil'
  ·exact h g' c' w' own' gr' (loc'.elim (fun q=> .inl (Option.some.inj (show some g'=some g from q))) (fun q=> .inr (Option.some.inj (show some g'=some u.heap.size from q))))
abbrev oC0:Oper:={dst:=some 3,op:=Go.Op.fieldAddr 52 (Go.Operand.tmp 1) 0,type:=0,pos:= "l14_disk.go:64",after:= #[],guard:=none}
abbrev oC1:Oper:={dst:=some 4,op:=Go.Op.load 3 (Go.Operand.tmp 3),type:=3,pos:= "l14_disk.go:64",after:= #[{on:=0,ground:=Go.Ground.data}],guard:=none}
abbrev oC2:Oper:={dst:=some 5,op:=Go.Op.buildSlice 50 0 #[],type:=50,pos:= "l14_disk.go:64",after:= #[],guard:=none}
abbrev oC3:Oper:={dst:=some 6,op:=Go.Op.fieldAddr 52 (Go.Operand.tmp 1) 1,type:=0,pos:= "l14_disk.go:64",after:= #[],guard:=none}
abbrev oC4:Oper:={dst:=some 7,op:=Go.Op.load 50 (Go.Operand.tmp 6),type:=50,pos:= "l14_disk.go:64",after:= #[{on:=3,ground:=Go.Ground.data}],guard:=none}
abbrev oC5:Oper:={dst:=some 8,op:=Go.Op.call {callee:=Go.Callee.builtin Go.Builtin.append,args:= #[Go.Operand.tmp 5,Go.Operand.tmp 7],argTypes:= #[50,50]},type:=50,pos:= "l14_disk.go:64",after:= #[{on:=2,ground:=Go.Ground.data},{on:=4,ground:=Go.Ground.data}],guard:=none}
abbrev oC6:Oper:={dst:=some 9,op:=Go.Op.build 52 #[(0,Go.Operand.tmp 4),(1,Go.Operand.tmp 8)],type:=52,pos:= "l14_disk.go:64",after:= #[{on:=1,ground:=Go.Ground.data},{on:=5,ground:=Go.Ground.data}],guard:=none}
abbrev oC7:Oper:={dst:=none,op:=Go.Op.store 52 (Go.Operand.tmp 2) (Go.Operand.tmp 9),type:=0,pos:= "l14_disk.go:64",after:= #[{on:=6,ground:=Go.Ground.data},{on:=5,ground:=Go.Ground.chain},{on:=0,ground:=Go.Ground.phase},{on:=1,ground:=Go.Ground.phase},{on:=2,ground:=Go.Ground.phase},{on:=3,ground:=Go.Ground.phase},{on:=4,ground:=Go.Ground.phase},{on:=5,ground:=Go.Ground.phase},{on:=6,ground:=Go.Ground.phase}],guard:=none}
theorem sCopy(w:World)(x:Dx)(hr:RdD w x):
  Calls Tryz.prog 39 #[.agg #[.int .i64 x.room,.slice x.a x.ps.length x.c]] w fun e w'=>∃y:Dx,y.room=x.room∧y.ps=x.ps∧e= .returned (.agg #[.int .i64 y.room,.slice y.a y.ps.length y.c])∧OwD w' w.heap.size y∧Below w.heap.size w w':=by
 have F:∀W1,W1=w.alloc (.cells #[.int .i64 x.room,.slice x.a x.ps.length x.c] 52)→∀W2,W2=W1.alloc (.cells #[.int .i64 0,.slice none 0 0] 52)→
   Wd w W2 x∧Bc W2 w.heap.size (w.heap.size+1) (.int .i64 0) (.slice none 0 0)∧W2.heap.size=w.heap.size+2:=by
  intro W1 h1 W2 h2
  have s1:W1.heap.size=w.heap.size+1:=by rw[h1];simp
  have s2:W2.heap.size=w.heap.size+2:=by rw[h2];simp[s1]
  have d1:Wd w W1 x:=by rw[h1];exact Wd.made hr _
  have b2:Below W1.heap.size W1 W2:=by rw[h2];exact one_more _ _
  have R1:Bc W2 w.heap.size (w.heap.size+1) (.int .i64 0) (.slice none 0 0):=by rw[h2];exact Bc.made _ _ (by omega) s1.symm
  exact⟨d1.step b2,R1,s2⟩
 have G0:=zh (F _ rfl _ rfl)
 have h20:=hr.n
 clear F hr
 go_enter Tryz.func39,Tryz.ntmps39
 go_wp2_with fail
 generalize (w.alloc (.cells #[.int .i64 x.room,.slice x.a x.ps.length x.c] 52)).alloc (.cells #[.int .i64 0,.slice none 0 0] 52)=W at *
 obtain⟨WD,RB,s3⟩:=zu G0
 have K0:=And.intro WD.c0 WD.c1
 have bL:=one_more W.drew (.cells #[] 120)
 have WL:=WD.drew.step bL
 have KB:=And.intro WL.c0 WL.c1
 have RQ:=zh (show x.ps.length=0∨∃vb,x.a=some ⟨vb,0,none⟩∧AtF (W.drew.alloc (.cells #[] 120)) vb x.ps from by
  by_cases q:x.ps.length=0
  ·exact .inl q
  ·obtain⟨g,e⟩:=WL.r.e q
   exact .inr ⟨g,e,(WL.r.r g e).2⟩)
 have LF:=zh (show OwnF 120 (W.drew.alloc (.cells #[] 120)) w.heap.size (w.heap.size+2) 0 0 [] from by
  have h:=litF0 120 W.drew w.heap.size (show w.heap.size≤W.heap.size from by omega)
  rw[show W.drew.heap.size=w.heap.size+2 from s3] at h
  exact h)
 have HWD:=zh WD
 have HRB:=zh RB
 clear G0 WD RB bL WL
 refine wp_region_held_drew (S:=(fun w'=>w'.cell? ⟨w.heap.size,0,none⟩=some (.int .i64 x.room)∧w'.cell? ⟨w.heap.size,1,none⟩=some (.slice x.a x.ps.length x.c))) (by kernel_rfl) K0 (fun hHeld=>?_)
 refine tk 0 oC0 (.pointer (some ⟨w.heap.size,0,none⟩)) rfl (by kernel_rfl) (fun _ _ _ h=>h) (by rfl) (fun w hSw=>?_) hHeld ?_
 ·(try dsimp only at hSw)
  unfold oC0
  go_simp
 try simp only[oC0,Act.put,zA,zB,zC]
 refine tk 1 oC1 (.int .i64 x.room) rfl (by kernel_rfl) (fun _ _ _ h=>h) (by rfl) (fun w hSw=>?_) hHeld ?_
 ·(try dsimp only at hSw)
  unfold oC1
  go_simp
 try simp only[oC1,Act.put,zA,zB,zC]
 refine tk 3 oC3 (.pointer (some ⟨w.heap.size,1,none⟩)) rfl (by kernel_rfl) (fun _ _ _ h=>h) (by rfl) (fun w hSw=>?_) hHeld ?_
 ·(try dsimp only at hSw)
  unfold oC3
  go_simp
 try simp only[oC3,Act.put,zA,zB,zC]
 refine tk 4 oC4 (.slice x.a x.ps.length x.c) rfl (by kernel_rfl) (fun _ _ _ h=>h) (by rfl) (fun w hSw=>?_) hHeld ?_
 ·(try dsimp only at hSw)
  unfold oC4
  go_simp
 try simp only[oC4,Act.put,zA,zB,zC]
 refine wpAnyH_ready (rs:=[2]) (by kernel_rfl) (by simp) ?_
 refine AllReadyH.cons (o:=oC2) rfl (fun K hK=>?_) AllReadyH.nil
 unfold oC2
 go_simp
 refine hK.out _ _ KB (fun hHeld=>?_)
 clear hK K
 try simp only[oC2,Act.put,zA,zB,zC]
 refine wpAnyH_ready (rs:=[5]) (by kernel_rfl) (by simp) ?_
 refine AllReadyH.cons (o:=oC5) rfl (fun K hK=>?_) AllReadyH.nil
 refine step_many ((W.drew).alloc (.cells #[] 120)) (by rfl) _ _ (by rfl) w.heap.size (w.heap.size+2) 0 0 [] x.ps x.a x.c (by rfl) (by rfl) (zu LF) (zu RQ) (by omega) h20 (Nat.le_trans (show w.heap.size≤W.drew.heap.size from by show w.heap.size≤W.heap.size;omega) (by simp)) ?_
 intro g9 c9 u9 o9 gr9 LOC
 simp at LOC
 have O9:=zh o9
 have G9:=zh gr9
 have K9:u9.cell? ⟨w.heap.size,0,none⟩=some (.int .i64 x.room)∧u9.cell? ⟨w.heap.size,1,none⟩=some (.slice x.a x.ps.length x.c):=⟨gr9.cell KB.1 (by simp),gr9.cell KB.2 (by simp)⟩
 have R9:=zh ((((show Bc W.drew w.heap.size (w.heap.size+1) (.int .i64 0) (.slice none 0 0) from zu HRB).below (one_more W.drew (.cells #[] 120)) (show w.heap.size+1<W.heap.size from by omega))).kept gr9 (by simp))
 have f0:=(zu R9).free 0
 have f1:=(zu R9).free 1
 have r0:=(zu R9).c0
 have r1:=(zu R9).c1
 have NB:=zh (show g9≠w.heap.size+1 from fun e=>by
  have h:=World.ownsRow.lt o9 g9 rfl
  rcases LOC with q|q<;>omega)
 have s0:=(zu R9).set0 (.int .i64 x.room)
 have s1:=bc_set1 s0.1 (.slice (some ⟨g9,0,none⟩) x.ps.length c9)
 have ST:=zh (grow_grow s0.2 s1.2)
 have gs9:=(zu G9).size
 simp at gs9
 have KE:((u9.setCell ⟨w.heap.size+1,0,none⟩ (.int .i64 x.room)).setCell ⟨w.heap.size+1,1,none⟩ (.slice (some ⟨g9,0,none⟩) x.ps.length c9)).cell? ⟨w.heap.size,0,none⟩=some (.int .i64 x.room)∧((u9.setCell ⟨w.heap.size+1,0,none⟩ (.int .i64 x.room)).setCell ⟨w.heap.size+1,1,none⟩ (.slice (some ⟨g9,0,none⟩) x.ps.length c9)).cell? ⟨w.heap.size,1,none⟩=some (.slice x.a x.ps.length x.c):=⟨(kcell (zu ST) 0 (show w.heap.size<u9.heap.size from by omega) (by omega)).trans K9.1,(kcell (zu ST) 1 (show w.heap.size<u9.heap.size from by omega) (by omega)).trans K9.2⟩
 clear o9 gr9 s0 s1
 refine hK.out _ _ K9 (fun hHeld=>?_)
 clear hK K
 try simp only[oC5,Act.put,zA,zB,zC]
 refine tk 6 oC6 (.agg #[.int .i64 x.room,.slice (some ⟨g9,0,none⟩) (0+x.ps.length) c9]) rfl (by kernel_rfl) (fun _ _ _ h=>h) (by rfl) (fun w hSw=>?_) hHeld ?_
 ·(try dsimp only at hSw)
  unfold oC6
  go_simp
 try simp only[oC6,Act.put,zA,zB,zC]
 refine wpAnyH_ready (rs:=[7]) (by kernel_rfl) (by simp) ?_
 refine AllReadyH.cons (o:=oC7) rfl (fun K hK=>?_) AllReadyH.nil
 unfold oC7
 go_simp
 refine hK.out _ _ KE (fun hHeld=>?_)
 clear hK K
 try simp only[oC7,Act.put,zA,zB,zC]
 refine wpAnyH_done (by kernel_rfl) ?_ _
 clear KE K9 KB K0
 go_wp2
 refine bodyPost_ret (v:= .agg #[.int .i64 x.room,.slice (some ⟨g9,0,none⟩) x.ps.length c9]) (by simp[results,Tryz.results39,go_sem,r0,r1]) rfl ⟨⟨x.room,some ⟨g9,0,none⟩,c9,x.ps⟩,rfl,rfl,rfl,?_,?_⟩
 ·unfold OwD
  exact World.ownsRow.kept (by have h:=zu O9;simp only[List.nil_append,Nat.zero_add] at h;exact h) (zu ST) (.inr (fun e=>(zu NB) (Option.some.inj (show some g9=some (w.heap.size+1) from e))))
 ·exact grow_low (grow_low ((zu HWD).b.drew.alloc (show w.heap.size≤W.heap.size from by omega) _) (zu G9) ⟨by omega,by simp;omega⟩) (zu ST) ⟨by omega,by have:=(zu G9).size;simp at this;omega⟩
end SCopy14
namespace SRef14
open Fil14 OpensF14 DiskH14 DkH14 SDk14 SOk14 SRd14 App14 SLess14 SCopy14
def refD(code room:Int)(ps:List TF):Int×List TF:=if code=1 then(0,[]) else(room,ps)
theorem sRefused(w:World)(x:Dx)(code:Int)(hr:RdD w x):
  Calls Tryz.prog 79 #[.agg #[.int .i64 x.room,.slice x.a x.ps.length x.c],.int .i64 code] w fun e w'=>∃y:Dx,(y.room,y.ps)=refD code x.room x.ps∧e= .returned (.agg #[.int .i64 y.room,.slice y.a y.ps.length y.c])∧OwD w' w.heap.size y∧Below w.heap.size w w':=by
 have F:∀W1,W1=w.alloc (.cells #[.int .i64 x.room,.slice x.a x.ps.length x.c] 52)→∀W2,W2=W1.alloc (.cells #[.int .i64 0,.slice none 0 0] 52)→
   Wd w W2 x∧Bc W2 w.heap.size (w.heap.size+1) (.int .i64 0) (.slice none 0 0)∧W2.heap.size=w.heap.size+2:=by
  intro W1 h1 W2 h2
  have s1:W1.heap.size=w.heap.size+1:=by rw[h1];simp
  have s2:W2.heap.size=w.heap.size+2:=by rw[h2];simp[s1]
  have d1:Wd w W1 x:=by rw[h1];exact Wd.made hr _
  have b2:Below W1.heap.size W1 W2:=by rw[h2];exact one_more _ _
  have R1:Bc W2 w.heap.size (w.heap.size+1) (.int .i64 0) (.slice none 0 0):=by rw[h2];exact Bc.made _ _ (by omega) s1.symm
  exact⟨d1.step b2,R1,s2⟩
 have G0:=zh (F _ rfl _ rfl)
 clear F hr
 by_cases q:code=1
 ·have E:=zh (show refD code x.room x.ps=(0,[]) from if_pos q)
  generalize refD code x.room x.ps=rr at *
  subst q
  go_enter Tryz.func79,Tryz.ntmps79
  go_wp2
  obtain⟨WD,RB,s3⟩:=zu G0
  have r0:=RB.c0
  have r1:=RB.c1
  refine bodyPost_ret (v:= .agg #[.int .i64 0,.slice none 0 0]) (by simp[results,Tryz.results79,go_sem]) rfl ⟨⟨0,none,0,[]⟩,(zu E).symm,rfl,⟨rfl,.inl ⟨rfl,rfl⟩⟩,WD.b⟩
 ·have E:=zh (show refD code x.room x.ps=(x.room,x.ps) from if_neg q)
  generalize refD code x.room x.ps=rr at *
  go_enter Tryz.func79,Tryz.ntmps79
  go_wp2_with fail
  generalize (w.alloc (.cells #[.int .i64 x.room,.slice x.a x.ps.length x.c] 52)).alloc (.cells #[.int .i64 0,.slice none 0 0] 52)=W at *
  obtain⟨WD,RB,s3⟩:=zu G0
  refine(sCopy W x WD.r).mono ?_
  rintro e u ⟨y,yr,yp,rfl,oy,by1⟩
  have HE:=zh (show(y.room,y.ps)=rr by rw[zu E,yr,yp])
  have R9:=RB.below by1 (by omega)
  have f0:=R9.free 0
  have f1:=R9.free 1
  have r0:=R9.c0
  have r1:=R9.c1
  have s0:=R9.set0 (.int .i64 y.room)
  have s1:=bc_set1 s0.1 (.slice y.a y.ps.length y.c)
  have ST:=zh (grow_grow s0.2 s1.2)
  have BB:=zh (WD.b.trans (by1.mono WD.b.size))
  have us:=by1.size
  have O1:=zh oy
  clear WD RB R9 s0 s1 by1 G0 oy yr yp
  go_wp2
  refine bodyPost_ret (v:= .agg #[.int .i64 y.room,.slice y.a y.ps.length y.c]) (by simp[results,Tryz.results79,go_sem,r0,r1]) rfl ⟨y,zu HE,rfl,?_,?_⟩
  ·exact row_base (row_kept (zu O1) (zu ST) (by omega)) (by omega)
  ·exact grow_low (zu BB) (zu ST) (by omega)
end SRef14
namespace SCom14
open Fil14 OpensF14 DiskH14 DkH14 SDk14 SOk14 SRd14 App14 SLess14 SCopy14 SRef14
def ToldD(r:(Int×List TF)×Int)(w:World)(e:Ending)(w':World):Prop:=∃y:Dx,(y.room,y.ps)=r.1∧e= .returned (.tuple #[.agg #[.int .i64 y.room,.slice y.a y.ps.length y.c],.int .i64 r.2])∧OwD w' w.heap.size y∧Below w.heap.size w w'
theorem ixF{a:Option Addr}{g n k:Nat}(c:Nat)(e:a=some ⟨g,0,none⟩)(h:k<n)(w:World):(Instr.indexAt 50 (.slice a n c) (.int .i64 k)).run Tryz.prog w= .ok (.pointer (some ⟨g,k*3,none⟩)) w:=by
 subst e
 have:(k:Int)<n:=by omega
 simp[go_sem,this]
theorem at_in{room:Int}{ps:List TF}{nm:Int}(h:(atD room ps nm).2=0):OkD room ps∧okN nm=true∧∃k:Nat,(atD room ps nm).1=k∧k<ps.length∧(elF ps k).1=nm:=by
 unfold atD at h⊢
 by_cases q:OkD room ps∧okN nm=true
 ·rw[if_pos q] at h⊢
  by_cases n:findF ps nm<0
  ·simp[n] at h
  ·obtain⟨k,e,l,m⟩:=findF_in (ps:=ps) (nm:=nm) (by omega)
   exact⟨q.1,q.2,k,e,l,m⟩
 ·rw[if_neg q] at h;simp at h
theorem begunD{w:World}{x:Dx}(hr:RdD w x):Wd w ((w.alloc (.cells #[.int .i64 x.room,.slice x.a x.ps.length x.c] 52)).alloc (.cells #[.int .i64 0,.slice none 0 0] 52)) x∧Bc ((w.alloc (.cells #[.int .i64 x.room,.slice x.a x.ps.length x.c] 52)).alloc (.cells #[.int .i64 0,.slice none 0 0] 52)) w.heap.size (w.heap.size+1) (.int .i64 0) (.slice none 0 0):=
 ⟨(Wd.made hr _).step (one_more _ _),Bc.made _ _ (by simp) (by simp)⟩
theorem endedD{w u:World}{base0:Nat}{y:Dx}(b:Below w.heap.size w u)(rb:Bc u w.heap.size (w.heap.size+1) (.int .i64 0) (.slice none 0 0))(o:OwD u base0 y)(hb:w.heap.size+1<base0):OwD ((u.setCell ⟨w.heap.size+1,0,none⟩ (.int .i64 y.room)).setCell ⟨w.heap.size+1,1,none⟩ (.slice y.a y.ps.length y.c)) w.heap.size y∧Below w.heap.size w ((u.setCell ⟨w.heap.size+1,0,none⟩ (.int .i64 y.room)).setCell ⟨w.heap.size+1,1,none⟩ (.slice y.a y.ps.length y.c)):=by
 have s0:=rb.set0 (.int .i64 y.room)
 have s1:=bc_set1 s0.1 (.slice y.a y.ps.length y.c)
 have st:=grow_grow s0.2 s1.2
 exact⟨row_base (row_kept o st hb) (by omega),grow_low b st ⟨by omega,b.size⟩⟩
end SCom14
namespace IFile14
open Fil14 OpensF14 DiskH14 DkH14 SDk14 SOk14
theorem iName(w:World)(n:Int):Calls Tryz.prog 87 #[.int .i64 n] w fun e w'=>e= .returned (.bool (okN n))∧w'=w:=by
 unfold okN
 by_cases h0:0≤n
 ·by_cases h1:n≤21
  ·rw[decide_eq_true ⟨h0,h1⟩]
   have a:n≥0:=h0
   have b:n<22:=by omega
   clear h1
   go_enter Tryz.func87,Tryz.ntmps87
   go_wp2
   go_ret
   exact⟨rfl,rfl⟩
  ·rw[decide_eq_false (fun q=>h1 q.2)]
   have a:n≥0:=h0
   have b:¬n<22:=by omega
   clear h1
   go_enter Tryz.func87,Tryz.ntmps87
   go_wp2
   go_ret
   exact⟨rfl,rfl⟩
 ·rw[decide_eq_false (fun q=>h0 q.1)]
  have a:¬n≥0:=h0
  go_enter Tryz.func87,Tryz.ntmps87
  go_wp2
  go_ret
  exact⟨rfl,rfl⟩
theorem iNameB(w:World)(n:Int)(b:Bool)(h:okN n=b):Calls Tryz.prog 87 #[.int .i64 n] w fun e w'=>e= .returned (.bool b)∧w'=w:=by
 rw[←h]
 exact iName w n
theorem iSizeF(w:World)(p0:Int)(p1 p2:ByteArray)(h:p1.size+p2.size≤1048576):Calls Tryz.prog 86 #[.agg #[.int .i64 p0,.string p1,.string p2]] w fun e w'=>e= .returned (.int .i64 ((p1.size:Int)+p2.size))∧Below w.heap.size w w':=by
 have B:=zh (one_more w (.cells #[.int .i64 p0,.string p1,.string p2] 120))
 have a1:wrap64 ((p1.size:Int)+p2.size)=p1.size+p2.size:=by rw[wrap64];omega
 go_enter Tryz.func86,Tryz.ntmps86
 go_wp2
 go_ret
 exact⟨rfl,zu B⟩
theorem iText(w:World)(p0:Int)(p1 p2:ByteArray)(h:p1.size+p2.size≤1048576):Calls Tryz.prog 134 #[.agg #[.int .i64 p0,.string p1,.string p2]] w fun e w'=>e= .returned (.string (p1++p2))∧Below w.heap.size w w':=by
 have B:=zh (one_more w (.cells #[.int .i64 p0,.string p1,.string p2] 120))
 go_enter Tryz.func134,Tryz.ntmps134
 go_wp2
 go_ret
 exact⟨rfl,zu B⟩
end IFile14
end Go.Proofs.YtagmnociflkhcaaGreat
