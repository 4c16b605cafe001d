/- Lemmas. -/
import Derived.Test.YtppkkmaoaiopaaaGreatQF12
import Derived.Maps.AppendAt
open Go.ChangeShapes Go.WideShapes Go.ChangeAt Go.RowKit
set_option linter.unusedVariables false
set_option linter.unusedSimpArgs false
set_option maxRecDepth 100000
set_option maxHeartbeats 32000000
namespace Go.Proofs.YtppkkmaoaiopaaaGreat
namespace App14
open Fil14 OpensF14 DiskH14 DkH14 SDk14 SOk14 SRd14
theorem kcell{W W':World}{G g:Nat}(k:W.grownBy W' (some G))(o:Nat)(hg:g<W.heap.size)(hG:g≠G):W'.cell? ⟨g,o,none⟩=W.cell? ⟨g,o,none⟩:=
 World.cell?_of_block (w:=W) (k.block g hg (by simpa using hG))
theorem grow_grow{w w1 w2:World}{row:Option Nat}(h:w.grownBy w1 row)(k:w1.grownBy w2 row):w.grownBy w2 row:=
 ⟨k.os.trans h.os,k.tape.trans h.tape,k.output.trans h.output,Nat.le_trans h.size k.size,fun i hi hr=>(k.block i (Nat.lt_of_lt_of_le hi h.size) hr).trans (h.block i hi hr)⟩
theorem grow_app{Wk wr u9:World}{lit:Obj}{row:Option Nat}{G:Nat}(h:Wk.grownBy wr (some G))(k:(wr.drew.alloc lit).grownBy u9 row)(hr:∀j,row=some j→Wk.heap.size≤j):Wk.grownBy u9 (some G):=
 ⟨k.os.trans h.os,k.tape.trans h.tape,k.output.trans h.output,Nat.le_trans h.size (Nat.le_trans (show wr.heap.size≤(wr.drew.alloc lit).heap.size from by show wr.heap.size≤(wr.drew.heap.push lit).size;rw[Array.size_push];exact Nat.le_succ _) k.size),fun i hi hG=>by
  have l:i<wr.drew.heap.size:=Nat.lt_of_lt_of_le hi h.size
  refine(k.block i (by simp;exact Nat.lt_succ_of_lt l) (fun e=>by have:=hr i e.symm;omega)).trans ?_
  exact(Below.heap_alloc wr.drew lit i l).trans (h.block i hi hG)⟩
theorem row_kept{W W':World}{base G:Nat}{e:TypeId}{m:Nat}{v:Value}{n:Nat}{vs:List Value}(h:W.ownsRow base e m v n vs)(k:W.grownBy W' (some G))(hG:G<base):W'.ownsRow base e m v n vs:=
 World.ownsRow.kept h k (by
  cases hb:v.ownBlock with
  |none=>exact .inl rfl
  |some g=>exact .inr (fun e=>by have:=(World.ownsRow.lt h g hb).1;injection e with e;omega))
theorem step_app(u:World){ops:Array Oper}{o:Oper}{a:Act}{K:Act→World→Prop}{Q:Exit→Act→World→Prop}{E:Prop}(hgd:o.guard=none)(s x:Operand)(t e:TypeId)
  (ho:o.op= .call {callee:= .builtin .append,args:= #[s,x],argTypes:= #[t,t]})(z:Value)(size bytes:Nat)(ht:Tryz.prog.underlying t=some (.slice e))(hi:(Tryz.prog.info? e).map (fun i=>(i.zero,i.size,i.bytes))=some (some z,size,bytes))(hzs:z.cells.size=size)(hsz:0<size)(hby:bytes≤64)
  (base:Nat)(v:Value)(n:Nat)(xs:List Value)(vb:Nat)(news:List Value)(hs:a.eval s=v)(hx:a.eval x= .slice (some ⟨vb,0,none⟩) 1 1)(hown:u.ownsRow base e size v n xs)(hl:news.length=size)(hc:∀j w,news[j]?=some w→u.cell? ⟨vb,j,none⟩=some w)(h1:∀w∈news,w.oneCell'=true)(hn:n≤1048576)(hb:base≤u.heap.size)
  (h:∀g' c' w',w'.ownsRow base e size (.slice (some ⟨g',0,none⟩) (n+1) c') (n+1) (xs++news)→u.grownBy w' v.ownBlock→K (a.put o.dst (.slice (some ⟨g',0,none⟩) (n+1) c')) w'):if Region.wanted o (yielded ops a.tmps)=true then Oper.wp Tryz.prog o a u K Q else E:=by
 obtain⟨i0,hi,hz0,hz1,hz2⟩:=info_parts hi
 have hw:Region.wanted o (yielded ops a.tmps)=true:=by simp[Region.wanted,hgd]
 rw[if_pos hw]
 obtain⟨v',w',hr,own',gr',nil',loc'⟩:=run_append_own_at (P:=Tryz.prog) u base t o.type e i0 z size bytes ht hi hz0 hz1 hz2 hzs hsz v n xs hown ⟨vb,0,none⟩ 1 1 news (by omega) (fun j w hj=>by rw[Addr.add_lit,Nat.zero_add];exact hc j w hj) h1 (by unfold maxLen;omega) (by have:(n+1)*bytes≤1048577*64:=Nat.mul_le_mul (by omega) hby;omega) hb
 unfold Oper.wp execOp
 simp only[ho,resolve,invoke,builtin,Sem.run_bind,Sem.run_pure,Result.andThen_ok,List.map_toArray,List.map_cons,List.map_nil,hs,hx,hr]
 rcases own'.2 with⟨e1,_⟩|⟨g',c',cur,rfl,_⟩
 ·rw[e1] at nil';simp at nil'
 ·exact h g' c' w' own' gr'
theorem row_base{W:World}{base base':Nat}{e:TypeId}{m:Nat}{v:Value}{n:Nat}{vs:List Value}(h:W.ownsRow base e m v n vs)(hb:base'≤base):W.ownsRow base' e m v n vs:=
 ⟨h.1,by
  rcases h.2 with h|⟨g,c,cur,h1,h2,h3⟩
  ·exact .inl h
  ·exact .inr ⟨g,c,cur,h1,Nat.le_trans hb h2,h3⟩⟩
theorem litm(u:World)(news:List Value)(e:TypeId)(arr:Array Value)(h:arr=news.toArray):∀j w,news[j]?=some w→(u.alloc (.cells arr e)).cell? ⟨u.heap.size,j,none⟩=some w:=by
 subst h
 intro j w hj
 simpa using hj
theorem flat_1(ps:List TF)(p:TF):flatF (ps++[p])=flatF ps++[.int .i64 p.1,.string p.2.1,.string p.2.2]:=by simp[flatF]
end App14
namespace SLess14
open Fil14 OpensF14 DiskH14 DkH14 SDk14 SOk14 SRd14 App14
open DkH14 (row_step)
def lessN(ps:List TF)(nm:Int):Nat→List TF
 |0=>[]
 |k+1=>if(k:Int)=nm then lessN ps nm k else lessN ps nm k++[elF ps k]
theorem grow_low{B:Nat}{w W W':World}{G:Nat}(h:Below B w W)(k:W.grownBy W' (some G))(hB:B≤G∧B≤W.heap.size):Below B w W':=
 ⟨k.os.trans h.os,k.tape.trans h.tape,k.output.trans h.output,Nat.le_trans h.size k.size,fun i hi=>(k.block i (by omega) (by simp;omega)).trans (h.block i hi)⟩
theorem bc_set1{w:World}{base g:Nat}{v0 v1:Value}(h:Bc w base g v0 v1)(u:Value):Bc (w.setCell ⟨g,1,none⟩ u) base g v0 u∧w.grownBy (w.setCell ⟨g,1,none⟩ u) (some g):=World.ownsRow.stored h 1 u
theorem sLess(w:World)(x:Dx)(nm:Int)(hr:RdD w x):
  Calls Tryz.prog 42 #[.agg #[.int .i64 x.room,.slice x.a x.ps.length x.c],.int .i64 nm] w fun e w'=>∃y:Dx,y.room=x.room∧y.ps=lessN x.ps nm x.ps.length∧e= .returned (.agg #[.int .i64 y.room,.slice y.a y.ps.length y.c])∧OwD w' w.heap.size y∧Below w.heap.size w w':=by
 have F:∀W1,W1=w.alloc (.cells #[.int .i64 x.room,.slice x.a x.ps.length x.c] 37)→∀W2,W2=W1.alloc (.cells #[.int .i64 0,.slice none 0 0] 37)→∀W3,W3=W2.alloc (.cells #[.int .i64 x.room,.slice none 0 0] 37)→
   Wd w W3 x∧Bc W3 w.heap.size (w.heap.size+1) (.int .i64 0) (.slice none 0 0)∧Bc W3 w.heap.size (w.heap.size+1+1) (.int .i64 x.room) (.slice none 0 0)∧W3.heap.size=w.heap.size+3:=by
  intro W1 h1 W2 h2 W3 h3
  have s1:W1.heap.size=w.heap.size+1:=by rw[h1];simp
  have s2:W2.heap.size=w.heap.size+1+1:=by rw[h2];simp[s1]
  have s3:W3.heap.size=w.heap.size+3:=by rw[h3];simp[s2]
  have d1:Wd w W1 x:=by rw[h1];exact Wd.made hr _
  have b2:Below W1.heap.size W1 W2:=by rw[h2];exact one_more _ _
  have b3:Below W2.heap.size W2 W3:=by rw[h3];exact one_more _ _
  have R1:Bc W2 w.heap.size (w.heap.size+1) (.int .i64 0) (.slice none 0 0):=by rw[h2];exact Bc.made _ _ (by omega) s1.symm
  have O1:Bc W3 w.heap.size (w.heap.size+1+1) (.int .i64 x.room) (.slice none 0 0):=by rw[h3];exact Bc.made _ _ (by omega) s2.symm
  exact⟨(d1.step b2).step b3,R1.below b3 (by omega),O1,s3⟩
 have G0:=zh (F _ rfl _ rfl _ rfl)
 have G1:=zh (fun g e=>(hr.r g e).1)
 have h20:=hr.n
 clear F hr
 go_enter Tryz.func42,Tryz.ntmps42
 go_wp2_with fail
 generalize ((w.alloc (.cells #[.int .i64 x.room,.slice x.a x.ps.length x.c] 37)).alloc (.cells #[.int .i64 0,.slice none 0 0] 37)).alloc (.cells #[.int .i64 x.room,.slice none 0 0] 37)=W at *
 obtain⟨WD,RB,OB,s3⟩:=zu G0
 have HWD:=zh WD
 have HRB:=zh RB
 clear G0 WD RB
 go_loopw [6] (fun i wr=>∃(k m c:Nat) (a:Option Addr),i= .int .i64 k∧k≤x.ps.length∧m≤k∧Hid (W.grownBy wr (some (w.heap.size+1+1)))∧Hid (Bc wr w.heap.size (w.heap.size+1+1) (.int .i64 x.room) (.slice a m c))∧Hid (wr.ownsRow W.heap.size 81 3 (.slice a m c) m (flatF (lessN x.ps nm k)))) (fun i _=>x.ps.length-(intOf i).toNat)
 case atStart=>exact⟨0,0,0,none,rfl,by omega,by omega,zh (World.grownBy.refl _ _),zh OB,zh ⟨rfl,.inl ⟨rfl,rfl⟩⟩⟩
 case round=>
  clear OB
  obtain⟨k,m,c,a,rfl,hk,hm,GR,BX,OW⟩:=hrel
  have gs:=(zu GR).size
  have lt:w.heap.size+2<wr.heap.size:=by omega
  have c1:=(kcell (zu GR) 1 (show w.heap.size<W.heap.size from by omega) (by omega)).trans (zu HWD).c1
  by_cases t:k<x.ps.length
  ·have kt:(k:Int)<x.ps.length:=by omega
   by_cases q:(k:Int)=nm
   ·have TK:=zh (show lessN x.ps nm (k+1)=lessN x.ps nm k from if_pos q)
    subst q
    go_wp2
    go_roundw
    case rel=>exact⟨k+1,m,c,a,by go_num,by omega,by omega,GR,BX,zh (by rw[zu TK];exact zu OW)⟩
    case measure=>simp[intOf];omega
   ·have TK:=zh (show lessN x.ps nm (k+1)=lessN x.ps nm k++[elF x.ps k] from if_neg q)
    obtain⟨g,ea,lg,e0,e1,e2⟩:=cells_of (zu HWD).r t
    have lg0:=(zu G1) g ea
    have gn:g≠w.heap.size+1+1:=by omega
    have d0:=(kcell (zu GR) (k*3) lg gn).trans e0
    have d1:=(kcell (zu GR) (k*3+1) lg gn).trans e1
    have d2:=(kcell (zu GR) (k*3+2) lg gn).trans e2
    rw[ea] at c1
    generalize hp:elF x.ps k=p at *
    obtain⟨z0,z1,z2⟩:=p
    simp only at d0 d1 d2
    clear e0 e1 e2 ea hp
    have K0:wr.cell? ⟨w.heap.size,1,none⟩=some (.slice (some ⟨g,0,none⟩) x.ps.length x.c)∧wr.cell? ⟨g,k*3,none⟩=some (.int .i64 z0)∧wr.cell? ⟨g,k*3+1,none⟩=some (.string z1)∧wr.cell? ⟨g,k*3+2,none⟩=some (.string z2):=⟨c1,d0,d1,d2⟩
    have KB:(wr.drew.alloc (.cells #[.int .i64 z0,.string z1,.string z2] 81)).cell? ⟨w.heap.size,1,none⟩=some (.slice (some ⟨g,0,none⟩) x.ps.length x.c)∧(wr.drew.alloc (.cells #[.int .i64 z0,.string z1,.string z2] 81)).cell? ⟨g,k*3,none⟩=some (.int .i64 z0)∧(wr.drew.alloc (.cells #[.int .i64 z0,.string z1,.string z2] 81)).cell? ⟨g,k*3+1,none⟩=some (.string z1)∧(wr.drew.alloc (.cells #[.int .i64 z0,.string z1,.string z2] 81)).cell? ⟨g,k*3+2,none⟩=some (.string z2):=⟨((one_more wr.drew (.cells #[.int .i64 z0,.string z1,.string z2] 81)).cell (p:=⟨w.heap.size,1,none⟩) (show w.heap.size<wr.heap.size from by omega)).trans c1,((one_more wr.drew (.cells #[.int .i64 z0,.string z1,.string z2] 81)).cell (p:=⟨g,k*3,none⟩) (show g<wr.heap.size from by omega)).trans d0,((one_more wr.drew (.cells #[.int .i64 z0,.string z1,.string z2] 81)).cell (p:=⟨g,k*3+1,none⟩) (show g<wr.heap.size from by omega)).trans d1,((one_more wr.drew (.cells #[.int .i64 z0,.string z1,.string z2] 81)).cell (p:=⟨g,k*3+2,none⟩) (show g<wr.heap.size from by omega)).trans d2⟩
    have bc:=(zu BX).c1
    have bcD:wr.drew.cell? ⟨w.heap.size+1+1,1,none⟩=some (.slice a m c):=bc
    have bcA:(wr.alloc (.cells #[.int .i64 z0,.string z1,.string z2] 81)).cell? ⟨w.heap.size+1+1,1,none⟩=some (.slice a m c):=((one_more wr.drew (.cells #[.int .i64 z0,.string z1,.string z2] 81)).cell (p:=⟨w.heap.size+1+1,1,none⟩) (show w.heap.size+1+1<wr.heap.size from by omega)).trans bc
    go_wp2_with fail
    refine wp_region_held_drew (S:=(fun w'=>w'.cell? ⟨w.heap.size,1,none⟩=some (.slice (some ⟨g,0,none⟩) x.ps.length x.c)∧w'.cell? ⟨g,k*3,none⟩=some (.int .i64 z0)∧w'.cell? ⟨g,k*3+1,none⟩=some (.string z1)∧w'.cell? ⟨g,k*3+2,none⟩=some (.string z2))) (by kernel_rfl) K0 (fun hHeld=>?_)
    refine zT 0 20 (.pointer (some ⟨w.heap.size+1+1,1,none⟩)) rfl hHeld ?_
    refine zT 2 22 (.pointer (some ⟨w.heap.size,1,none⟩)) rfl hHeld ?_
    refine zT 3 23 (.slice (some ⟨g,0,none⟩) x.ps.length x.c) rfl hHeld ?_
    refine zT 4 24 (.int .i64 k) rfl hHeld ?_
    refine zT 5 25 (.pointer (some ⟨g,k*3,none⟩)) rfl hHeld ?_
    refine zT 6 26 (.agg #[.int .i64 z0,.string z1,.string z2]) rfl hHeld ?_
    try simp only[Act.put,zA,zB,zC]
    refine wpAnyH_ready (rs:=[1,7]) (by kernel_rfl) (by simp) ?_
    refine AllReadyH.cons rfl (fun K hK=>?_) (AllReadyH.cons rfl (fun K hK=>?_) AllReadyH.nil)
    ·go_simp
     refine hK.out _ _ K0 (fun hHeld=>?_)
     clear hK K
     try simp only[Act.put,zA,zB,zC]
     refine zR 7 rfl (fun K hK=>?_)
     go_simp
     refine hK.out _ _ KB (fun hHeld=>?_)
     clear hK K
     try simp only[Act.put,zA,zB,zC]
     refine zR 8 rfl (fun K hK=>?_)
     refine step_app (wr.drew.alloc (.cells #[.int .i64 z0,.string z1,.string z2] 81)) (by rfl) _ _ 35 81 (by rfl) (.agg #[.int .i64 0,.string ByteArray.empty,.string ByteArray.empty]) 3 40 Tryz.underlying35 HelpF14.info2 rfl (by decide) (by decide) W.heap.size (.slice a m c) m (flatF (lessN x.ps nm k)) wr.drew.heap.size [.int .i64 z0,.string z1,.string z2] (by rfl) (by rfl) (row_step (W:=wr.drew) (zu OW) (one_more wr.drew (.cells #[.int .i64 z0,.string z1,.string z2] 81))) rfl (litm wr.drew _ _ _ (by rfl)) (by simp[Value.oneCell']) (by omega) (Nat.le_trans (show W.heap.size≤wr.drew.heap.size from gs) (by simp)) ?_
     intro g9 c9 u9 o9 gr9
     have BL:∀j,(Value.slice a m c).ownBlock=some j→W.heap.size≤j:=fun j hj=>(World.ownsRow.lt (zu OW) j hj).1
     have GR9:=zh (grow_app (zu GR) gr9 BL)
     have NG:some (w.heap.size+1+1)≠(Value.slice a m c).ownBlock:=fun e=>by have:=BL _ e.symm;omega
     have BX9:=zh (((show Bc wr.drew w.heap.size (w.heap.size+1+1) (.int .i64 x.room) (.slice a m c) from zu BX).below (one_more wr.drew (.cells #[.int .i64 z0,.string z1,.string z2] 81)) (show w.heap.size+1+1<wr.heap.size from by omega)).kept gr9 NG)
     have O9:=zh o9
     have fr9:u9.frozen? ⟨w.heap.size+1+1,1,none⟩=false:=(zu BX9).free 1
     have bc9:=(zu BX9).c1
     have g9l:=(World.ownsRow.lt o9 g9 rfl).1
     have gs9:=(zu GR9).size
     have KC:u9.cell? ⟨w.heap.size,1,none⟩=some (.slice (some ⟨g,0,none⟩) x.ps.length x.c)∧u9.cell? ⟨g,k*3,none⟩=some (.int .i64 z0)∧u9.cell? ⟨g,k*3+1,none⟩=some (.string z1)∧u9.cell? ⟨g,k*3+2,none⟩=some (.string z2):=⟨gr9.cell KB.1 (fun e=>by have:=BL _ e.symm;simp only at this;omega),gr9.cell KB.2.1 (fun e=>by have:=BL _ e.symm;simp only at this;omega),gr9.cell KB.2.2.1 (fun e=>by have:=BL _ e.symm;simp only at this;omega),gr9.cell KB.2.2.2 (fun e=>by have:=BL _ e.symm;simp only at this;omega)⟩
     have SB:=bc_set1 (zu BX9) (.slice (some ⟨g9,0,none⟩) (m+1) c9)
     have SB2:=zh SB
     have KD:(u9.setCell ⟨w.heap.size+1+1,1,none⟩ (.slice (some ⟨g9,0,none⟩) (m+1) c9)).cell? ⟨w.heap.size,1,none⟩=some (.slice (some ⟨g,0,none⟩) x.ps.length x.c)∧(u9.setCell ⟨w.heap.size+1+1,1,none⟩ (.slice (some ⟨g9,0,none⟩) (m+1) c9)).cell? ⟨g,k*3,none⟩=some (.int .i64 z0)∧(u9.setCell ⟨w.heap.size+1+1,1,none⟩ (.slice (some ⟨g9,0,none⟩) (m+1) c9)).cell? ⟨g,k*3+1,none⟩=some (.string z1)∧(u9.setCell ⟨w.heap.size+1+1,1,none⟩ (.slice (some ⟨g9,0,none⟩) (m+1) c9)).cell? ⟨g,k*3+2,none⟩=some (.string z2):=⟨(kcell SB.2 (1) (show w.heap.size<u9.heap.size from by omega) (show w.heap.size≠w.heap.size+1+1 from by omega)).trans KC.1,(kcell SB.2 (k*3) (show g<u9.heap.size from by omega) gn).trans KC.2.1,(kcell SB.2 (k*3+1) (show g<u9.heap.size from by omega) gn).trans KC.2.2.1,(kcell SB.2 (k*3+2) (show g<u9.heap.size from by omega) gn).trans KC.2.2.2⟩
     clear o9 SB
     refine hK.out _ _ KC (fun hHeld=>?_)
     clear hK K
     refine zT 9 29 (.pointer (some ⟨w.heap.size+1+1,1,none⟩)) rfl hHeld ?_
     try simp only[Act.put,zA,zB,zC]
     refine zR 10 rfl (fun K hK=>?_)
     go_simp
     refine hK.out _ _ KD (fun hHeld=>?_)
     clear hK K
     try simp only[Act.put,zA,zB,zC]
     refine wpAnyH_done (by kernel_rfl) ?_ _
     clear K0 KB KC KD gr9 bc bcD bcA bc9 fr9
     have GRS:=zh (grow_grow (zu GR9) (zu SB2).2)
     have BXS:=zh (zu SB2).1
     have OWS:=zh (row_kept (zu O9) (zu SB2).2 (by omega))
     clear SB2
     go_wp2
     go_roundw
     case rel=>exact⟨k+1,m+1,c9,some ⟨g9,0,none⟩,by go_num,by omega,by omega,GRS,BXS,zh (by have h:=zu OWS;rw[zu TK];rw[flat_1];exact h)⟩
     case measure=>simp[intOf];omega
    ·go_simp
     refine hK.out _ _ KB (fun hHeld=>?_)
     clear hK K
     try simp only[Act.put,zA,zB,zC]
     refine zR 1 rfl (fun K hK=>?_)
     go_simp
     refine hK.out _ _ KB (fun hHeld=>?_)
     clear hK K
     try simp only[Act.put,zA,zB,zC]
     refine zR 8 rfl (fun K hK=>?_)
     refine step_app (wr.drew.alloc (.cells #[.int .i64 z0,.string z1,.string z2] 81)) (by rfl) _ _ 35 81 (by rfl) (.agg #[.int .i64 0,.string ByteArray.empty,.string ByteArray.empty]) 3 40 Tryz.underlying35 HelpF14.info2 rfl (by decide) (by decide) W.heap.size (.slice a m c) m (flatF (lessN x.ps nm k)) wr.drew.heap.size [.int .i64 z0,.string z1,.string z2] (by rfl) (by rfl) (row_step (W:=wr.drew) (zu OW) (one_more wr.drew (.cells #[.int .i64 z0,.string z1,.string z2] 81))) rfl (litm wr.drew _ _ _ (by rfl)) (by simp[Value.oneCell']) (by omega) (Nat.le_trans (show W.heap.size≤wr.drew.heap.size from gs) (by simp)) ?_
     intro g9 c9 u9 o9 gr9
     have BL:∀j,(Value.slice a m c).ownBlock=some j→W.heap.size≤j:=fun j hj=>(World.ownsRow.lt (zu OW) j hj).1
     have GR9:=zh (grow_app (zu GR) gr9 BL)
     have NG:some (w.heap.size+1+1)≠(Value.slice a m c).ownBlock:=fun e=>by have:=BL _ e.symm;omega
     have BX9:=zh (((show Bc wr.drew w.heap.size (w.heap.size+1+1) (.int .i64 x.room) (.slice a m c) from zu BX).below (one_more wr.drew (.cells #[.int .i64 z0,.string z1,.string z2] 81)) (show w.heap.size+1+1<wr.heap.size from by omega)).kept gr9 NG)
     have O9:=zh o9
     have fr9:u9.frozen? ⟨w.heap.size+1+1,1,none⟩=false:=(zu BX9).free 1
     have bc9:=(zu BX9).c1
     have g9l:=(World.ownsRow.lt o9 g9 rfl).1
     have gs9:=(zu GR9).size
     have KC:u9.cell? ⟨w.heap.size,1,none⟩=some (.slice (some ⟨g,0,none⟩) x.ps.length x.c)∧u9.cell? ⟨g,k*3,none⟩=some (.int .i64 z0)∧u9.cell? ⟨g,k*3+1,none⟩=some (.string z1)∧u9.cell? ⟨g,k*3+2,none⟩=some (.string z2):=⟨gr9.cell KB.1 (fun e=>by have:=BL _ e.symm;simp only at this;omega),gr9.cell KB.2.1 (fun e=>by have:=BL _ e.symm;simp only at this;omega),gr9.cell KB.2.2.1 (fun e=>by have:=BL _ e.symm;simp only at this;omega),gr9.cell KB.2.2.2 (fun e=>by have:=BL _ e.symm;simp only at this;omega)⟩
     have SB:=bc_set1 (zu BX9) (.slice (some ⟨g9,0,none⟩) (m+1) c9)
     have SB2:=zh SB
     have KD:(u9.setCell ⟨w.heap.size+1+1,1,none⟩ (.slice (some ⟨g9,0,none⟩) (m+1) c9)).cell? ⟨w.heap.size,1,none⟩=some (.slice (some ⟨g,0,none⟩) x.ps.length x.c)∧(u9.setCell ⟨w.heap.size+1+1,1,none⟩ (.slice (some ⟨g9,0,none⟩) (m+1) c9)).cell? ⟨g,k*3,none⟩=some (.int .i64 z0)∧(u9.setCell ⟨w.heap.size+1+1,1,none⟩ (.slice (some ⟨g9,0,none⟩) (m+1) c9)).cell? ⟨g,k*3+1,none⟩=some (.string z1)∧(u9.setCell ⟨w.heap.size+1+1,1,none⟩ (.slice (some ⟨g9,0,none⟩) (m+1) c9)).cell? ⟨g,k*3+2,none⟩=some (.string z2):=⟨(kcell SB.2 (1) (show w.heap.size<u9.heap.size from by omega) (show w.heap.size≠w.heap.size+1+1 from by omega)).trans KC.1,(kcell SB.2 (k*3) (show g<u9.heap.size from by omega) gn).trans KC.2.1,(kcell SB.2 (k*3+1) (show g<u9.heap.size from by omega) gn).trans KC.2.2.1,(kcell SB.2 (k*3+2) (show g<u9.heap.size from by omega) gn).trans KC.2.2.2⟩
     clear o9 SB
     refine hK.out _ _ KC (fun hHeld=>?_)
     clear hK K
     refine zT 9 29 (.pointer (some ⟨w.heap.size+1+1,1,none⟩)) rfl hHeld ?_
     try simp only[Act.put,zA,zB,zC]
     refine zR 10 rfl (fun K hK=>?_)
     go_simp
     refine hK.out _ _ KD (fun hHeld=>?_)
     clear hK K
     try simp only[Act.put,zA,zB,zC]
     refine wpAnyH_done (by kernel_rfl) ?_ _
     clear K0 KB KC KD gr9 bc bcD bcA bc9 fr9
     have GRS:=zh (grow_grow (zu GR9) (zu SB2).2)
     have BXS:=zh (zu SB2).1
     have OWS:=zh (row_kept (zu O9) (zu SB2).2 (by omega))
     clear SB2
     go_wp2
     go_roundw
     case rel=>exact⟨k+1,m+1,c9,some ⟨g9,0,none⟩,by go_num,by omega,by omega,GRS,BXS,zh (by have h:=zu OWS;rw[zu TK];rw[flat_1];exact h)⟩
     case measure=>simp[intOf];omega
  ·have e:k=x.ps.length:=by omega
   subst e
   have B0:=(zu BX).c0
   have B1:=(zu BX).c1
   have Rk:=zh ((zu HRB).kept (zu GR) (by simp))
   have f0:=(zu Rk).free 0
   have f1:=(zu Rk).free 1
   have r0:=(zu Rk).c0
   have r1:=(zu Rk).c1
   have lm:(lessN x.ps nm x.ps.length).length=m:=by
    have:=(zu OW).1
    rw[flatF_len] at this
    omega
   have LM:=zh lm
   have OR:=zh (row_base (zu OW) (show w.heap.size≤W.heap.size from by omega))
   have LB:=zh (show ∀j,(Value.slice a m c).ownBlock=some j→w.heap.size+3≤j from fun j hj=>by have:=(World.ownsRow.lt (zu OW) j hj).1;omega)
   have s0:=(zu Rk).set0 (.int .i64 x.room)
   have s1:=bc_set1 s0.1 (.slice a m c)
   have ST:=zh (grow_grow s0.2 s1.2)
   have BB:=zh ((zu HWD).b)
   clear lm s0 s1
   go_wp2
   refine bodyPost_ret (v:= .agg #[.int .i64 x.room,.slice a m c]) (by simp[results,Tryz.results42,go_sem,r0,r1]) rfl ⟨⟨x.room,a,c,lessN x.ps nm x.ps.length⟩,rfl,rfl,by simp[zu LM],?_,?_⟩
   ·unfold OwD
    simp only[zu LM]
    exact World.ownsRow.kept (zu OR) (zu ST) (by
     cases hb:(Value.slice a m c).ownBlock with
     |none=>exact .inl rfl
     |some g=>exact .inr (fun e=>by have:=(zu LB) g hb;injection e with e;omega))
   ·have k:=grow_low (zu BB) (zu GR) (by omega)
    exact grow_low k (zu ST) (by omega)
end SLess14
namespace SCopy14
open Fil14 OpensF14 DiskH14 DkH14 SDk14 SOk14 SRd14 App14 SLess14
open DkH14 (row_step)
theorem step_many(u:World){ops:Array Oper}{o:Oper}{a:Act}{K:Act→World→Prop}{Q:Exit→Act→World→Prop}{E:Prop}(hgd:o.guard=none)(s x:Operand)
  (ho:o.op= .call {callee:= .builtin .append,args:= #[s,x],argTypes:= #[35,35]})(base g n cap:Nat)(ps qs:List TF)(xa:Option Addr)(xc:Nat)(hs:a.eval s= .slice (some ⟨g,0,none⟩) n cap)(hx:a.eval x= .slice xa qs.length xc)(hown:OwnF 81 u base g n cap ps)(hq:qs.length=0∨∃vb,xa=some ⟨vb,0,none⟩∧AtF u vb qs)(hn:n≤1048576)(hm:qs.length≤1048576)(hb:base≤u.heap.size)
  (h:∀g' c' w',OwnF 81 w' base g' (n+qs.length) c' (ps++qs)→u.grownBy w' (some g)→(g'=g∨g'=u.heap.size)→K (a.put o.dst (.slice (some ⟨g',0,none⟩) (n+qs.length) c')) w'):if Region.wanted o (yielded ops a.tmps)=true then Oper.wp Tryz.prog o a u K Q else E:=by
 obtain⟨i0,hi,hz0,hz1,hz2⟩:=info_parts HelpF14.info2
 have hw:Region.wanted o (yielded ops a.tmps)=true:=by simp[Region.wanted,hgd]
 rw[if_pos hw]
 rcases hq with hq|⟨vb,rfl,hq⟩
 ·have e:qs=[]:=List.length_eq_zero_iff.1 hq
  subst e
  obtain⟨hle,hcap⟩:n≤cap∧True:=by
   rcases hown.2 with⟨h1,_⟩|⟨g',c,cur,h1,h2,h3,h4,_⟩
   ·simp at h1
   ·obtain⟨_,e2⟩:g=g'∧cap=c:=by simpa using h1
    exact⟨by omega,trivial⟩
  have hr:(Builtin.append_ #[35,35] o.type #[.slice (some ⟨g,0,none⟩) n cap,.slice xa 0 xc]).run Tryz.prog u= .ok (.slice (some ⟨g,0,none⟩) n cap) u:=by
   cases xa<;>simp[Builtin.append_,run_underlying Tryz.underlying35,sizeOf,typeInfo,hi,hle,storeCells,go_sem]
  unfold Oper.wp execOp
  simp only[List.length_nil] at hx
  simp only[ho,resolve,invoke,builtin,Sem.run_bind,Sem.run_pure,Result.andThen_ok,List.map_toArray,List.map_cons,List.map_nil,hs,hx,hr]
  have:=h g cap u (by simpa using hown) (World.grownBy.refl _ _) (.inl rfl)
  simp only[List.length_nil,Nat.add_zero] at this
  exact this
 ·obtain⟨v',w',hr,own',gr',nil',loc'⟩:=run_append_own_at (P:=Tryz.prog) u base 35 o.type 81 i0 (.agg #[.int .i64 0,.string ByteArray.empty,.string ByteArray.empty]) 3 40 Tryz.underlying35 hi hz0 hz1 hz2 rfl (by decide) (.slice (some ⟨g,0,none⟩) n cap) n (flatF ps) hown ⟨vb,0,none⟩ qs.length xc (flatF qs) (flatF_len qs) hq.cells (fun u hu=>flatF_one u qs hu) (by unfold maxLen;omega) (by omega) hb
  unfold Oper.wp execOp
  simp only[ho,resolve,invoke,builtin,Sem.run_bind,Sem.run_pure,Result.andThen_ok,List.map_toArray,List.map_cons,List.map_nil,hs,hx,hr]
  rw[←flatF_append] at own'
  rcases own'.2 with⟨e1,_⟩|⟨g',c',cur,rfl,_⟩
  ·rw[e1] at nil';simp at nil'
  ·exact h g' c' w' own' gr' (loc'.elim (fun q=> .inl (Option.some.inj (show some g'=some g from q))) (fun q=> .inr (Option.some.inj (show some g'=some u.heap.size from q))))
theorem sCopy(w:World)(x:Dx)(hr:RdD w x):
  Calls Tryz.prog 44 #[.agg #[.int .i64 x.room,.slice x.a x.ps.length x.c]] w fun e w'=>∃y:Dx,y.room=x.room∧y.ps=x.ps∧e= .returned (.agg #[.int .i64 y.room,.slice y.a y.ps.length y.c])∧OwD w' w.heap.size y∧Below w.heap.size w w':=by
 have F:∀W1,W1=w.alloc (.cells #[.int .i64 x.room,.slice x.a x.ps.length x.c] 37)→∀W2,W2=W1.alloc (.cells #[.int .i64 0,.slice none 0 0] 37)→
   Wd w W2 x∧Bc W2 w.heap.size (w.heap.size+1) (.int .i64 0) (.slice none 0 0)∧W2.heap.size=w.heap.size+2:=by
  intro W1 h1 W2 h2
  have s1:W1.heap.size=w.heap.size+1:=by rw[h1];simp
  have s2:W2.heap.size=w.heap.size+2:=by rw[h2];simp[s1]
  have d1:Wd w W1 x:=by rw[h1];exact Wd.made hr _
  have b2:Below W1.heap.size W1 W2:=by rw[h2];exact one_more _ _
  have R1:Bc W2 w.heap.size (w.heap.size+1) (.int .i64 0) (.slice none 0 0):=by rw[h2];exact Bc.made _ _ (by omega) s1.symm
  exact⟨d1.step b2,R1,s2⟩
 have G0:=zh (F _ rfl _ rfl)
 have h20:=hr.n
 clear F hr
 go_enter Tryz.func44,Tryz.ntmps44
 go_wp2_with fail
 generalize (w.alloc (.cells #[.int .i64 x.room,.slice x.a x.ps.length x.c] 37)).alloc (.cells #[.int .i64 0,.slice none 0 0] 37)=W at *
 obtain⟨WD,RB,s3⟩:=zu G0
 have K0:=And.intro WD.c0 WD.c1
 have bL:=one_more W.drew (.cells #[] 81)
 have WL:=WD.drew.step bL
 have KB:=And.intro WL.c0 WL.c1
 have RQ:=zh (show x.ps.length=0∨∃vb,x.a=some ⟨vb,0,none⟩∧AtF (W.drew.alloc (.cells #[] 81)) vb x.ps from by
  by_cases q:x.ps.length=0
  ·exact .inl q
  ·obtain⟨g,e⟩:=WL.r.e q
   exact .inr ⟨g,e,(WL.r.r g e).2⟩)
 have LF:=zh (show OwnF 81 (W.drew.alloc (.cells #[] 81)) w.heap.size (w.heap.size+2) 0 0 [] from by
  have h:=litF0 81 W.drew w.heap.size (show w.heap.size≤W.heap.size from by omega)
  rw[show W.drew.heap.size=w.heap.size+2 from s3] at h
  exact h)
 have HWD:=zh WD
 have HRB:=zh RB
 clear G0 WD RB bL WL
 refine wp_region_held_drew (S:=(fun w'=>w'.cell? ⟨w.heap.size,0,none⟩=some (.int .i64 x.room)∧w'.cell? ⟨w.heap.size,1,none⟩=some (.slice x.a x.ps.length x.c))) (by kernel_rfl) K0 (fun hHeld=>?_)
 refine zT 0 3 (.pointer (some ⟨w.heap.size,0,none⟩)) rfl hHeld ?_
 refine zT 1 4 (.int .i64 x.room) rfl hHeld ?_
 refine zT 3 6 (.pointer (some ⟨w.heap.size,1,none⟩)) rfl hHeld ?_
 refine zT 4 7 (.slice x.a x.ps.length x.c) rfl hHeld ?_
 try simp only[Act.put,zA,zB,zC]
 refine zR 2 rfl (fun K hK=>?_)
 go_simp
 refine hK.out _ _ KB (fun hHeld=>?_)
 clear hK K
 try simp only[Act.put,zA,zB,zC]
 refine zR 5 rfl (fun K hK=>?_)
 refine step_many ((W.drew).alloc (.cells #[] 81)) (by rfl) _ _ (by rfl) w.heap.size (w.heap.size+2) 0 0 [] x.ps x.a x.c (by rfl) (by rfl) (zu LF) (zu RQ) (by omega) h20 (Nat.le_trans (show w.heap.size≤W.drew.heap.size from by show w.heap.size≤W.heap.size;omega) (by simp)) ?_
 intro g9 c9 u9 o9 gr9 LOC
 simp at LOC
 have O9:=zh o9
 have G9:=zh gr9
 have K9:u9.cell? ⟨w.heap.size,0,none⟩=some (.int .i64 x.room)∧u9.cell? ⟨w.heap.size,1,none⟩=some (.slice x.a x.ps.length x.c):=⟨gr9.cell KB.1 (by simp),gr9.cell KB.2 (by simp)⟩
 have R9:=zh ((((show Bc W.drew w.heap.size (w.heap.size+1) (.int .i64 0) (.slice none 0 0) from zu HRB).below (one_more W.drew (.cells #[] 81)) (show w.heap.size+1<W.heap.size from by omega))).kept gr9 (by simp))
 have f0:=(zu R9).free 0
 have f1:=(zu R9).free 1
 have r0:=(zu R9).c0
 have r1:=(zu R9).c1
 have NB:=zh (show g9≠w.heap.size+1 from fun e=>by
  have h:=World.ownsRow.lt o9 g9 rfl
  rcases LOC with q|q<;>omega)
 have s0:=(zu R9).set0 (.int .i64 x.room)
 have s1:=bc_set1 s0.1 (.slice (some ⟨g9,0,none⟩) x.ps.length c9)
 have ST:=zh (grow_grow s0.2 s1.2)
 have gs9:=(zu G9).size
 simp at gs9
 have KE:((u9.setCell ⟨w.heap.size+1,0,none⟩ (.int .i64 x.room)).setCell ⟨w.heap.size+1,1,none⟩ (.slice (some ⟨g9,0,none⟩) x.ps.length c9)).cell? ⟨w.heap.size,0,none⟩=some (.int .i64 x.room)∧((u9.setCell ⟨w.heap.size+1,0,none⟩ (.int .i64 x.room)).setCell ⟨w.heap.size+1,1,none⟩ (.slice (some ⟨g9,0,none⟩) x.ps.length c9)).cell? ⟨w.heap.size,1,none⟩=some (.slice x.a x.ps.length x.c):=⟨(kcell (zu ST) 0 (show w.heap.size<u9.heap.size from by omega) (by omega)).trans K9.1,(kcell (zu ST) 1 (show w.heap.size<u9.heap.size from by omega) (by omega)).trans K9.2⟩
 clear o9 gr9 s0 s1
 refine hK.out _ _ K9 (fun hHeld=>?_)
 clear hK K
 refine zT 6 9 (.agg #[.int .i64 x.room,.slice (some ⟨g9,0,none⟩) (0+x.ps.length) c9]) rfl hHeld ?_
 try simp only[Act.put,zA,zB,zC]
 refine zR 7 rfl (fun K hK=>?_)
 go_simp
 refine hK.out _ _ KE (fun hHeld=>?_)
 clear hK K
 try simp only[Act.put,zA,zB,zC]
 refine wpAnyH_done (by kernel_rfl) ?_ _
 clear KE K9 KB K0
 go_wp2
 refine bodyPost_ret (v:= .agg #[.int .i64 x.room,.slice (some ⟨g9,0,none⟩) x.ps.length c9]) (by simp[results,Tryz.results44,go_sem,r0,r1]) rfl ⟨⟨x.room,some ⟨g9,0,none⟩,c9,x.ps⟩,rfl,rfl,rfl,?_,?_⟩
 ·unfold OwD
  exact World.ownsRow.kept (by have h:=zu O9;simp only[List.nil_append,Nat.zero_add] at h;exact h) (zu ST) (.inr (fun e=>(zu NB) (Option.some.inj (show some g9=some (w.heap.size+1) from e))))
 ·exact grow_low (grow_low ((zu HWD).b.drew.alloc (show w.heap.size≤W.heap.size from by omega) _) (zu G9) ⟨by omega,by simp;omega⟩) (zu ST) ⟨by omega,by have:=(zu G9).size;simp at this;omega⟩
end SCopy14
namespace SRef14
open Fil14 OpensF14 DiskH14 DkH14 SDk14 SOk14 SRd14 App14 SLess14 SCopy14
def refD(code room:Int)(ps:List TF):Int×List TF:=if code=1 then(0,[]) else(room,ps)
theorem sRefused(w:World)(x:Dx)(code:Int)(hr:RdD w x):
  Calls Tryz.prog 100 #[.agg #[.int .i64 x.room,.slice x.a x.ps.length x.c],.int .i64 code] w fun e w'=>∃y:Dx,(y.room,y.ps)=refD code x.room x.ps∧e= .returned (.agg #[.int .i64 y.room,.slice y.a y.ps.length y.c])∧OwD w' w.heap.size y∧Below w.heap.size w w':=by
 have F:∀W1,W1=w.alloc (.cells #[.int .i64 x.room,.slice x.a x.ps.length x.c] 37)→∀W2,W2=W1.alloc (.cells #[.int .i64 0,.slice none 0 0] 37)→
   Wd w W2 x∧Bc W2 w.heap.size (w.heap.size+1) (.int .i64 0) (.slice none 0 0)∧W2.heap.size=w.heap.size+2:=by
  intro W1 h1 W2 h2
  have s1:W1.heap.size=w.heap.size+1:=by rw[h1];simp
  have s2:W2.heap.size=w.heap.size+2:=by rw[h2];simp[s1]
  have d1:Wd w W1 x:=by rw[h1];exact Wd.made hr _
  have b2:Below W1.heap.size W1 W2:=by rw[h2];exact one_more _ _
  have R1:Bc W2 w.heap.size (w.heap.size+1) (.int .i64 0) (.slice none 0 0):=by rw[h2];exact Bc.made _ _ (by omega) s1.symm
  exact⟨d1.step b2,R1,s2⟩
 have G0:=zh (F _ rfl _ rfl)
 clear F hr
 by_cases q:code=1
 ·have E:=zh (show refD code x.room x.ps=(0,[]) from if_pos q)
  generalize refD code x.room x.ps=rr at *
  subst q
  go_enter Tryz.func100,Tryz.ntmps100
  go_wp2
  obtain⟨WD,RB,s3⟩:=zu G0
  have r0:=RB.c0
  have r1:=RB.c1
  refine bodyPost_ret (v:= .agg #[.int .i64 0,.slice none 0 0]) (by simp[results,Tryz.results100,go_sem]) rfl ⟨⟨0,none,0,[]⟩,(zu E).symm,rfl,⟨rfl,.inl ⟨rfl,rfl⟩⟩,WD.b⟩
 ·have E:=zh (show refD code x.room x.ps=(x.room,x.ps) from if_neg q)
  generalize refD code x.room x.ps=rr at *
  go_enter Tryz.func100,Tryz.ntmps100
  go_wp2_with fail
  generalize (w.alloc (.cells #[.int .i64 x.room,.slice x.a x.ps.length x.c] 37)).alloc (.cells #[.int .i64 0,.slice none 0 0] 37)=W at *
  obtain⟨WD,RB,s3⟩:=zu G0
  refine(sCopy W x WD.r).mono ?_
  rintro e u ⟨y,yr,yp,rfl,oy,by1⟩
  have HE:=zh (show(y.room,y.ps)=rr by rw[zu E,yr,yp])
  have R9:=RB.below by1 (by omega)
  have f0:=R9.free 0
  have f1:=R9.free 1
  have r0:=R9.c0
  have r1:=R9.c1
  have s0:=R9.set0 (.int .i64 y.room)
  have s1:=bc_set1 s0.1 (.slice y.a y.ps.length y.c)
  have ST:=zh (grow_grow s0.2 s1.2)
  have BB:=zh (WD.b.trans (by1.mono WD.b.size))
  have us:=by1.size
  have O1:=zh oy
  clear WD RB R9 s0 s1 by1 G0 oy yr yp
  go_wp2
  refine bodyPost_ret (v:= .agg #[.int .i64 y.room,.slice y.a y.ps.length y.c]) (by simp[results,Tryz.results100,go_sem,r0,r1]) rfl ⟨y,zu HE,rfl,?_,?_⟩
  ·exact row_base (row_kept (zu O1) (zu ST) (by omega)) (by omega)
  ·exact grow_low (zu BB) (zu ST) (by omega)
end SRef14
namespace SCom14
open Fil14 OpensF14 DiskH14 DkH14 SDk14 SOk14 SRd14 App14 SLess14 SCopy14 SRef14
def ToldD(r:(Int×List TF)×Int)(w:World)(e:Ending)(w':World):Prop:=∃y:Dx,(y.room,y.ps)=r.1∧e= .returned (.tuple #[.agg #[.int .i64 y.room,.slice y.a y.ps.length y.c],.int .i64 r.2])∧OwD w' w.heap.size y∧Below w.heap.size w w'
theorem ixF{a:Option Addr}{g n k:Nat}(c:Nat)(e:a=some ⟨g,0,none⟩)(h:k<n)(w:World):(Instr.indexAt 35 (.slice a n c) (.int .i64 k)).run Tryz.prog w= .ok (.pointer (some ⟨g,k*3,none⟩)) w:=by
 subst e
 have:(k:Int)<n:=by omega
 simp[go_sem,this]
theorem at_in{room:Int}{ps:List TF}{nm:Int}(h:(atD room ps nm).2=0):OkD room ps∧okN nm=true∧∃k:Nat,(atD room ps nm).1=k∧k<ps.length∧(elF ps k).1=nm:=by
 unfold atD at h⊢
 by_cases q:OkD room ps∧okN nm=true
 ·rw[if_pos q] at h⊢
  by_cases n:findF ps nm<0
  ·simp[n] at h
  ·obtain⟨k,e,l,m⟩:=findF_in (ps:=ps) (nm:=nm) (by omega)
   exact⟨q.1,q.2,k,e,l,m⟩
 ·rw[if_neg q] at h;simp at h
theorem begunD{w:World}{x:Dx}(hr:RdD w x):Wd w ((w.alloc (.cells #[.int .i64 x.room,.slice x.a x.ps.length x.c] 37)).alloc (.cells #[.int .i64 0,.slice none 0 0] 37)) x∧Bc ((w.alloc (.cells #[.int .i64 x.room,.slice x.a x.ps.length x.c] 37)).alloc (.cells #[.int .i64 0,.slice none 0 0] 37)) w.heap.size (w.heap.size+1) (.int .i64 0) (.slice none 0 0):=
 ⟨(Wd.made hr _).step (one_more _ _),Bc.made _ _ (by simp) (by simp)⟩
theorem endedD{w u:World}{base0:Nat}{y:Dx}(b:Below w.heap.size w u)(rb:Bc u w.heap.size (w.heap.size+1) (.int .i64 0) (.slice none 0 0))(o:OwD u base0 y)(hb:w.heap.size+1<base0):OwD ((u.setCell ⟨w.heap.size+1,0,none⟩ (.int .i64 y.room)).setCell ⟨w.heap.size+1,1,none⟩ (.slice y.a y.ps.length y.c)) w.heap.size y∧Below w.heap.size w ((u.setCell ⟨w.heap.size+1,0,none⟩ (.int .i64 y.room)).setCell ⟨w.heap.size+1,1,none⟩ (.slice y.a y.ps.length y.c)):=by
 have s0:=rb.set0 (.int .i64 y.room)
 have s1:=bc_set1 s0.1 (.slice y.a y.ps.length y.c)
 have st:=grow_grow s0.2 s1.2
 exact⟨row_base (row_kept o st hb) (by omega),grow_low b st ⟨by omega,b.size⟩⟩
end SCom14
namespace SPut14
open Fil14 OpensF14 DiskH14 DkH14 SDk14 SOk14 SRd14 App14 SLess14 SCopy14
open DkH14 (row_step)
def putN(ps:List TF)(f:TF):Nat→List TF×Bool
 |0=>([],false)
 |k+1=>
  let l:=if(putN ps f k).2=false∧f.1≤(elF ps k).1 then(putN ps f k).1++[f] else(putN ps f k).1
  (if(elF ps k).1=f.1 then l else l++[elF ps k],(putN ps f k).2||decide (f.1≤(elF ps k).1))
def putF(ps:List TF)(f:TF):List TF:=if(putN ps f ps.length).2=true then(putN ps f ps.length).1 else(putN ps f ps.length).1++[f]
structure Pt(B O:Nat)(W wr:World)(room:Int)(L:List TF)(a:Option Addr)(m c:Nat):Prop where
 gr:W.grownBy wr (some O)
 bx:Bc wr B O (.int .i64 room) (.slice a m c)
 ow:wr.ownsRow W.heap.size 81 3 (.slice a m c) m (flatF L)
theorem Pt.drew{B O:Nat}{W wr:World}{room:Int}{L:List TF}{a:Option Addr}{m c:Nat}(h:Pt B O W wr room L a m c):Pt B O W wr.drew room L a m c:=⟨⟨h.gr.os,h.gr.tape,h.gr.output,h.gr.size,h.gr.block⟩,h.bx,h.ow⟩
theorem Pt.off{B O:Nat}{W wr:World}{room:Int}{L:List TF}{a:Option Addr}{m c:Nat}(h:Pt B O W wr room L a m c):∀j,(Value.slice a m c).ownBlock=some j→W.heap.size≤j:=fun j hj=>(World.ownsRow.lt h.ow j hj).1
theorem Pt.app{B O:Nat}{W wr V u:World}{room:Int}{L:List TF}{a:Option Addr}{m c g9 c9:Nat}{p:TF}(h:Pt B O W wr room L a m c)(hO:O<W.heap.size)(b:Below wr.heap.size wr V)(g:V.grownBy u (Value.slice a m c).ownBlock)
  (o:u.ownsRow W.heap.size 81 3 (.slice (some ⟨g9,0,none⟩) (m+1) c9) (m+1) (flatF L++[.int .i64 p.1,.string p.2.1,.string p.2.2])):
  Bc u B O (.int .i64 room) (.slice a m c)∧Pt B O W (u.setCell ⟨O,1,none⟩ (.slice (some ⟨g9,0,none⟩) (m+1) c9)) room (L++[p]) (some ⟨g9,0,none⟩) (m+1) c9:=by
 have NG:some O≠(Value.slice a m c).ownBlock:=fun e=>by have:=h.off _ e.symm;omega
 have bx9:=(h.bx.below b (h.bx.lt).2).kept g NG
 have gu:W.grownBy u (some O):=⟨(g.os.trans b.os).trans h.gr.os,(g.tape.trans b.tape).trans h.gr.tape,(g.output.trans b.output).trans h.gr.output,Nat.le_trans h.gr.size (Nat.le_trans b.size g.size),fun i hi hr=>by
  have l:i<wr.heap.size:=Nat.lt_of_lt_of_le hi h.gr.size
  exact((g.block i (Nat.lt_of_lt_of_le l b.size) (fun e=>by have:=h.off i e.symm;omega)).trans (b.block i l)).trans (h.gr.block i hi hr)⟩
 have s:=bc_set1 bx9 (.slice (some ⟨g9,0,none⟩) (m+1) c9)
 refine⟨bx9,grow_grow gu s.2,s.1,?_⟩
 rw[flat_1]
 exact row_kept o s.2 hO
theorem wp_app(u:World){ops:Array Oper}{rest:List Oper}{o:Oper}{a:Act}{Q:Exit→Act→World→Prop}(hgd:o.guard=none)(s x:Operand)
  (ho:o.op= .call {callee:= .builtin .append,args:= #[s,x],argTypes:= #[35,35]})(base:Nat)(v:Value)(n:Nat)(xs:List Value)(vb:Nat)(news:List Value)(hs:a.eval s=v)(hx:a.eval x= .slice (some ⟨vb,0,none⟩) 1 1)(hown:u.ownsRow base 81 3 v n xs)(hl:news.length=3)(hc:∀j w,news[j]?=some w→u.cell? ⟨vb,j,none⟩=some w)(h1:∀w∈news,w.oneCell'=true)(hn:n≤1048576)(hb:base≤u.heap.size)
  (h:∀g' c' w',w'.ownsRow base 81 3 (.slice (some ⟨g',0,none⟩) (n+1) c') (n+1) (xs++news)→u.grownBy w' v.ownBlock→wpList Tryz.prog ops Q rest (a.put o.dst (.slice (some ⟨g',0,none⟩) (n+1) c')) w'):wpList Tryz.prog ops Q (o::rest) a u:=by
 obtain⟨i0,hi,hz0,hz1,hz2⟩:=info_parts HelpF14.info2
 refine wpList_append_own_at u hgd s x 35 ho base 81 i0 (.agg #[.int .i64 0,.string ByteArray.empty,.string ByteArray.empty]) 3 40 Tryz.underlying35 hi hz0 hz1 hz2 rfl (by decide) v n xs hs hown ⟨vb,0,none⟩ 1 1 news hx (by omega) (fun j w hj=>by rw[Addr.add_lit,Nat.zero_add];exact hc j w hj) h1 (by unfold maxLen;omega) (by omega) hb ?_
 intro v' w' own' gr' nil' loc'
 rcases own'.2 with⟨e1,_⟩|⟨g',c',cur,rfl,_⟩
 ·rw[e1] at nil';simp at nil'
 ·exact h g' c' w' own' gr'
theorem putN_succ{ps:List TF}{f:TF}{k:Nat}{L:List TF}{pb:Bool}(h:putN ps f k=(L,pb)):putN ps f (k+1)=(if(elF ps k).1=f.1 then(if pb=false∧f.1≤(elF ps k).1 then L++[f] else L) else(if pb=false∧f.1≤(elF ps k).1 then L++[f] else L)++[elF ps k],pb||decide (f.1≤(elF ps k).1)):=by
 simp only[putN,h]
theorem sPut(w:World)(x:Dx)(f0:Int)(f1 f2:ByteArray)(hr:RdD w x)(h22:x.ps.length≤22):
  Calls Tryz.prog 98 #[.agg #[.int .i64 x.room,.slice x.a x.ps.length x.c],.agg #[.int .i64 f0,.string f1,.string f2]] w fun e w'=>∃y:Dx,y.room=x.room∧y.ps=putF x.ps (f0,f1,f2)∧e= .returned (.agg #[.int .i64 y.room,.slice y.a y.ps.length y.c])∧OwD w' w.heap.size y∧Below w.heap.size w w':=by
 have F:∀W1,W1=w.alloc (.cells #[.int .i64 x.room,.slice x.a x.ps.length x.c] 37)→∀W2,W2=W1.alloc (.cells #[.int .i64 f0,.string f1,.string f2] 81)→∀W3,W3=W2.alloc (.cells #[.int .i64 0,.slice none 0 0] 37)→∀W4,W4=W3.alloc (.cells #[.int .i64 x.room,.slice none 0 0] 37)→
   Wd w W4 x∧(W4.cell? ⟨w.heap.size+1,0,none⟩=some (.int .i64 f0)∧W4.cell? ⟨w.heap.size+1,1,none⟩=some (.string f1)∧W4.cell? ⟨w.heap.size+1,2,none⟩=some (.string f2))∧Bc W4 w.heap.size (w.heap.size+1+1) (.int .i64 0) (.slice none 0 0)∧Bc W4 w.heap.size (w.heap.size+1+1+1) (.int .i64 x.room) (.slice none 0 0)∧W4.heap.size=w.heap.size+4:=by
  intro W1 h1 W2 h2 W3 h3 W4 h4
  have s1:W1.heap.size=w.heap.size+1:=by rw[h1];simp
  have s2:W2.heap.size=w.heap.size+1+1:=by rw[h2];simp[s1]
  have s3:W3.heap.size=w.heap.size+1+1+1:=by rw[h3];simp[s2]
  have s4:W4.heap.size=w.heap.size+4:=by rw[h4];simp[s3]
  have d1:Wd w W1 x:=by rw[h1];exact Wd.made hr _
  have b2:Below W1.heap.size W1 W2:=by rw[h2];exact one_more _ _
  have b3:Below W2.heap.size W2 W3:=by rw[h3];exact one_more _ _
  have b4:Below W3.heap.size W3 W4:=by rw[h4];exact one_more _ _
  have b34:=b3.trans (b4.mono b3.size)
  have F0:W2.cell? ⟨w.heap.size+1,0,none⟩=some (.int .i64 f0)∧W2.cell? ⟨w.heap.size+1,1,none⟩=some (.string f1)∧W2.cell? ⟨w.heap.size+1,2,none⟩=some (.string f2):=by rw[h2,←s1];exact⟨by simp[go_sem],by simp[go_sem],by simp[go_sem]⟩
  have R1:Bc W3 w.heap.size (w.heap.size+1+1) (.int .i64 0) (.slice none 0 0):=by rw[h3];exact Bc.made _ _ (by omega) s2.symm
  have O1:Bc W4 w.heap.size (w.heap.size+1+1+1) (.int .i64 x.room) (.slice none 0 0):=by rw[h4];exact Bc.made _ _ (by omega) s3.symm
  exact⟨(d1.step b2).step b34,⟨(b34.cell (p:=⟨w.heap.size+1,0,none⟩) (by show w.heap.size+1<_;omega)).trans F0.1,(b34.cell (p:=⟨w.heap.size+1,1,none⟩) (by show w.heap.size+1<_;omega)).trans F0.2.1,(b34.cell (p:=⟨w.heap.size+1,2,none⟩) (by show w.heap.size+1<_;omega)).trans F0.2.2⟩,R1.below b4 (by omega),O1,s4⟩
 have G0:=zh (F _ rfl _ rfl _ rfl _ rfl)
 have G1:=zh (fun g e=>(hr.r g e).1)
 have PF:=zh (show putF x.ps (f0,f1,f2)=if(putN x.ps (f0,f1,f2) x.ps.length).2=true then(putN x.ps (f0,f1,f2) x.ps.length).1 else(putN x.ps (f0,f1,f2) x.ps.length).1++[(f0,f1,f2)] from rfl)
 clear F hr
 go_enter Tryz.func98,Tryz.ntmps98
 go_wp2_with fail
 generalize (((w.alloc (.cells #[.int .i64 x.room,.slice x.a x.ps.length x.c] 37)).alloc (.cells #[.int .i64 f0,.string f1,.string f2] 81)).alloc (.cells #[.int .i64 0,.slice none 0 0] 37)).alloc (.cells #[.int .i64 x.room,.slice none 0 0] 37)=W at *
 obtain⟨WD,FF,RB,OB,s3⟩:=zu G0
 have HWD:=zh WD
 have HRB:=zh RB
 have F0:=zh FF.1
 have F1:=zh FF.2.1
 have F2:=zh FF.2.2
 have hO:w.heap.size+1+1+1<W.heap.size:=by omega
 have wl0:w.heap.size<W.heap.size:=by omega
 have wl1:w.heap.size+1<W.heap.size:=by omega
 clear G0 WD RB FF
 go_loopw [6,7] (fun b i wr=>∃(k m c:Nat) (a:Option Addr) (L:List TF) (pb:Bool),b= .bool pb∧i= .int .i64 k∧k≤x.ps.length∧m≤2*k∧Hid (putN x.ps (f0,f1,f2) k=(L,pb))∧Hid (Pt w.heap.size (w.heap.size+1+1+1) W wr x.room L a m c)) (fun _ i _=>x.ps.length-(intOf i).toNat)
 case atStart=>exact⟨0,0,0,none,[],false,rfl,rfl,by omega,by omega,rfl,zh ⟨World.grownBy.refl _ _,OB,⟨rfl,.inl ⟨rfl,rfl⟩⟩⟩⟩
 case round=>
  clear OB
  obtain⟨k,m,c,a,L,pb,rfl,rfl,hk,hm,HP,HPt⟩:=hrel
  by_cases t:k<x.ps.length
  ·have kt:(k:Int)<x.ps.length:=by omega
   obtain⟨g,ea,lg,e0,e1,e2⟩:=cells_of (zu HWD).r t
   have lg0:=(zu G1) g ea
   have gn:g≠w.heap.size+1+1+1:=by omega
   have EP0:Hid (∃p,elF x.ps k=p):=⟨_,rfl⟩
   obtain⟨p,hp⟩:=zu EP0
   rw[hp] at e0 e1 e2
   obtain⟨z0,z1,z2⟩:=p
   have EP:=zh hp
   have D0:=zh e0
   have D1:=zh e1
   have D2:=zh e2
   have HC:=zh (by have h:=(zu HWD).c1;rw[ea] at h;exact h)
   clear hp e0 e1 e2 EP0 ea
   have u1c:=(kcell (zu HPt).gr 1 wl0 (by omega)).trans (zu HC)
   have u10:=(kcell (zu HPt).gr (k*3) lg gn).trans (zu D0)
   have u11:=(kcell (zu HPt).gr (k*3+1) lg gn).trans (zu D1)
   have u12:=(kcell (zu HPt).gr (k*3+2) lg gn).trans (zu D2)
   have u1f:=(kcell (zu HPt).gr 0 wl1 (by omega)).trans (zu F0)
   have u1g:=(kcell (zu HPt).gr 1 wl1 (by omega)).trans (zu F1)
   have u1h:=(kcell (zu HPt).gr 2 wl1 (by omega)).trans (zu F2)
   have u1s:=(zu HPt).gr.size
   cases pb
   ·by_cases qf:f0≤z0
    ·have PBV:True:=trivial
     have QF:f0≤z0:=qf
     have hg:z0≥f0:=qf
     by_cases qe:z0=f0
     ·have K6:wr.cell? ⟨w.heap.size,1,none⟩=some (.slice (some ⟨g,0,none⟩) x.ps.length x.c)∧wr.cell? ⟨g,k*3,none⟩=some (.int .i64 z0)∧wr.cell? ⟨w.heap.size+1,0,none⟩=some (.int .i64 f0):=⟨u1c,u10,u1f⟩
      go_wp2_with fail
      refine wp_region_held_drew (S:=(fun w'=>w'.cell? ⟨w.heap.size,1,none⟩=some (.slice (some ⟨g,0,none⟩) x.ps.length x.c)∧w'.cell? ⟨g,k*3,none⟩=some (.int .i64 z0)∧w'.cell? ⟨w.heap.size+1,0,none⟩=some (.int .i64 f0))) (by kernel_rfl) K6 (fun hHeld=>?_)
      refine zT 0 18 (.bool false) rfl hHeld ?_
      try simp only[Act.put,zA,zB,zC]
      refine zT 1 19 (.bool true) rfl hHeld ?_
      try simp only[Act.put,zA,zB,zC]
      refine zT 2 20 (.bool true) rfl hHeld ?_
      try simp only[Act.put,zA,zB,zC]
      refine zT 3 21 (.pointer (some ⟨w.heap.size,1,none⟩)) rfl hHeld ?_
      try simp only[Act.put,zA,zB,zC]
      refine zT 4 22 (.slice (some ⟨g,0,none⟩) x.ps.length x.c) rfl hHeld ?_
      try simp only[Act.put,zA,zB,zC]
      refine zT 5 23 (.int .i64 k) rfl hHeld ?_
      try simp only[Act.put,zA,zB,zC]
      refine zT 6 24 (.pointer (some ⟨g,k*3,none⟩)) rfl hHeld ?_
      try simp only[Act.put,zA,zB,zC]
      refine zT 7 25 (.pointer (some ⟨g,k*3,none⟩)) rfl hHeld ?_
      try simp only[Act.put,zA,zB,zC]
      refine zT 8 26 (.int .i64 z0) rfl hHeld ?_
      try simp only[Act.put,zA,zB,zC]
      refine zT 9 27 (.pointer (some ⟨w.heap.size+1,0,none⟩)) rfl hHeld ?_
      try simp only[Act.put,zA,zB,zC]
      refine zT 10 28 (.int .i64 f0) rfl hHeld ?_
      try simp only[Act.put,zA,zB,zC]
      refine zT 11 29 (.bool true) rfl hHeld ?_
      try simp only[Act.put,zA,zB,zC]
      refine zT 12 30 (.bool true) rfl hHeld ?_
      try simp only[Act.put,zA,zB,zC]
      refine wpAnyH_done (by kernel_rfl) ?_ _
      have PV:=zh (zu HPt).drew
      generalize wr.drew=v1 at *
      have u5c:=(kcell (zu PV).gr 1 wl0 (by omega)).trans (zu HC)
      have u50:=(kcell (zu PV).gr (k*3) lg gn).trans (zu D0)
      have u51:=(kcell (zu PV).gr (k*3+1) lg gn).trans (zu D1)
      have u52:=(kcell (zu PV).gr (k*3+2) lg gn).trans (zu D2)
      have u5f:=(kcell (zu PV).gr 0 wl1 (by omega)).trans (zu F0)
      have u5g:=(kcell (zu PV).gr 1 wl1 (by omega)).trans (zu F1)
      have u5h:=(kcell (zu PV).gr 2 wl1 (by omega)).trans (zu F2)
      have u5s:=(zu PV).gr.size
      have bo:=(zu PV).bx.c1
      have lo:=(zu PV).bx.lt.2
      have bob:(v1.alloc (.cells #[.int .i64 f0,.string f1,.string f2] 81)).cell? ⟨w.heap.size+1+1+1,1,none⟩=some (.slice a (m) c):=((one_more v1 (.cells #[.int .i64 f0,.string f1,.string f2] 81)).cell (p:=⟨w.heap.size+1+1+1,1,none⟩) lo).trans bo
      have vs:=(zu PV).gr.size
      go_wp2_with (first|(at_builtin;refine wp_app _ rfl _ _ rfl W.heap.size (.slice a (m) c) (m) (flatF (L)) v1.heap.size [.int .i64 f0,.string f1,.string f2] rfl rfl (row_step (zu PV).ow (one_more v1 (.cells #[.int .i64 f0,.string f1,.string f2] 81))) rfl (litm v1 _ _ _ (by rfl)) (by simp[Value.oneCell']) (by omega) (Nat.le_trans vs (by simp)) ?_)|go_in)
      intro g8 c8 u8 o8 gr8
      (try rw[←s3] at o8)
      have PA:=(zu PV).app (p:=(f0,f1,f2)) hO (one_more v1 (.cells #[.int .i64 f0,.string f1,.string f2] 81)) gr8 o8
      have bx8:=PA.1
      have b80:=bx8.c1
      have b81:=bx8.free 1
      have P8:=zh PA.2
      clear o8 gr8 PA bo bob bx8
      go_wp2_with fail
      generalize u8.setCell ⟨w.heap.size+1+1+1,1,none⟩ (.slice (some ⟨g8,0,none⟩) (m+1) c8)=v2 at *
      have NX:=zh (show putN x.ps (f0,f1,f2) (k+1)=((L++[(f0,f1,f2)]),true) from by rw[putN_succ (zu HP),zu EP];simp[PBV,qe,QF])
      have hq:(z0 !=f0)=false:=by simp[qe]
      clear qe
      have u2c:=(kcell (zu P8).gr 1 wl0 (by omega)).trans (zu HC)
      have u20:=(kcell (zu P8).gr (k*3) lg gn).trans (zu D0)
      have u21:=(kcell (zu P8).gr (k*3+1) lg gn).trans (zu D1)
      have u22:=(kcell (zu P8).gr (k*3+2) lg gn).trans (zu D2)
      have u2f:=(kcell (zu P8).gr 0 wl1 (by omega)).trans (zu F0)
      have u2g:=(kcell (zu P8).gr 1 wl1 (by omega)).trans (zu F1)
      have u2h:=(kcell (zu P8).gr 2 wl1 (by omega)).trans (zu F2)
      have u2s:=(zu P8).gr.size
      have K2:v2.cell? ⟨w.heap.size,1,none⟩=some (.slice (some ⟨g,0,none⟩) x.ps.length x.c)∧v2.cell? ⟨g,k*3,none⟩=some (.int .i64 z0)∧v2.cell? ⟨w.heap.size+1,0,none⟩=some (.int .i64 f0):=⟨u2c,u20,u2f⟩
      refine wp_region_held_drew (S:=(fun w'=>w'.cell? ⟨w.heap.size,1,none⟩=some (.slice (some ⟨g,0,none⟩) x.ps.length x.c)∧w'.cell? ⟨g,k*3,none⟩=some (.int .i64 z0)∧w'.cell? ⟨w.heap.size+1,0,none⟩=some (.int .i64 f0))) (by kernel_rfl) K2 (fun hHeld=>?_)
      refine zT 0 37 (.pointer (some ⟨w.heap.size,1,none⟩)) rfl hHeld ?_
      try simp only[Act.put,zA,zB,zC]
      refine zT 1 38 (.slice (some ⟨g,0,none⟩) x.ps.length x.c) rfl hHeld ?_
      try simp only[Act.put,zA,zB,zC]
      refine zT 2 39 (.int .i64 k) rfl hHeld ?_
      try simp only[Act.put,zA,zB,zC]
      refine zT 3 40 (.pointer (some ⟨g,k*3,none⟩)) rfl hHeld ?_
      try simp only[Act.put,zA,zB,zC]
      refine zT 4 41 (.pointer (some ⟨g,k*3,none⟩)) rfl hHeld ?_
      try simp only[Act.put,zA,zB,zC]
      refine zT 5 42 (.int .i64 z0) rfl hHeld ?_
      try simp only[Act.put,zA,zB,zC]
      refine zT 6 43 (.pointer (some ⟨w.heap.size+1,0,none⟩)) rfl hHeld ?_
      try simp only[Act.put,zA,zB,zC]
      refine zT 7 44 (.int .i64 f0) rfl hHeld ?_
      try simp only[Act.put,zA,zB,zC]
      refine zT 8 45 (.bool false) rfl hHeld ?_
      try simp only[Act.put,zA,zB,zC]
      refine wpAnyH_done (by kernel_rfl) ?_ _
      have P8D:=zh (zu P8).drew
      go_wp2
      go_roundw
      case rel=>exact⟨k+1,(m+1),c8,(some ⟨g8,0,none⟩),(L++[(f0,f1,f2)]),true,rfl,by go_num,by omega,by omega,NX,P8D⟩
      case measure=>simp[intOf];omega
     ·have K6:wr.cell? ⟨w.heap.size,1,none⟩=some (.slice (some ⟨g,0,none⟩) x.ps.length x.c)∧wr.cell? ⟨g,k*3,none⟩=some (.int .i64 z0)∧wr.cell? ⟨w.heap.size+1,0,none⟩=some (.int .i64 f0):=⟨u1c,u10,u1f⟩
      go_wp2_with fail
      refine wp_region_held_drew (S:=(fun w'=>w'.cell? ⟨w.heap.size,1,none⟩=some (.slice (some ⟨g,0,none⟩) x.ps.length x.c)∧w'.cell? ⟨g,k*3,none⟩=some (.int .i64 z0)∧w'.cell? ⟨w.heap.size+1,0,none⟩=some (.int .i64 f0))) (by kernel_rfl) K6 (fun hHeld=>?_)
      refine zT 0 18 (.bool false) rfl hHeld ?_
      try simp only[Act.put,zA,zB,zC]
      refine zT 1 19 (.bool true) rfl hHeld ?_
      try simp only[Act.put,zA,zB,zC]
      refine zT 2 20 (.bool true) rfl hHeld ?_
      try simp only[Act.put,zA,zB,zC]
      refine zT 3 21 (.pointer (some ⟨w.heap.size,1,none⟩)) rfl hHeld ?_
      try simp only[Act.put,zA,zB,zC]
      refine zT 4 22 (.slice (some ⟨g,0,none⟩) x.ps.length x.c) rfl hHeld ?_
      try simp only[Act.put,zA,zB,zC]
      refine zT 5 23 (.int .i64 k) rfl hHeld ?_
      try simp only[Act.put,zA,zB,zC]
      refine zT 6 24 (.pointer (some ⟨g,k*3,none⟩)) rfl hHeld ?_
      try simp only[Act.put,zA,zB,zC]
      refine zT 7 25 (.pointer (some ⟨g,k*3,none⟩)) rfl hHeld ?_
      try simp only[Act.put,zA,zB,zC]
      refine zT 8 26 (.int .i64 z0) rfl hHeld ?_
      try simp only[Act.put,zA,zB,zC]
      refine zT 9 27 (.pointer (some ⟨w.heap.size+1,0,none⟩)) rfl hHeld ?_
      try simp only[Act.put,zA,zB,zC]
      refine zT 10 28 (.int .i64 f0) rfl hHeld ?_
      try simp only[Act.put,zA,zB,zC]
      refine zT 11 29 (.bool true) rfl hHeld ?_
      try simp only[Act.put,zA,zB,zC]
      refine zT 12 30 (.bool true) rfl hHeld ?_
      try simp only[Act.put,zA,zB,zC]
      refine wpAnyH_done (by kernel_rfl) ?_ _
      have PV:=zh (zu HPt).drew
      generalize wr.drew=v1 at *
      have u5c:=(kcell (zu PV).gr 1 wl0 (by omega)).trans (zu HC)
      have u50:=(kcell (zu PV).gr (k*3) lg gn).trans (zu D0)
      have u51:=(kcell (zu PV).gr (k*3+1) lg gn).trans (zu D1)
      have u52:=(kcell (zu PV).gr (k*3+2) lg gn).trans (zu D2)
      have u5f:=(kcell (zu PV).gr 0 wl1 (by omega)).trans (zu F0)
      have u5g:=(kcell (zu PV).gr 1 wl1 (by omega)).trans (zu F1)
      have u5h:=(kcell (zu PV).gr 2 wl1 (by omega)).trans (zu F2)
      have u5s:=(zu PV).gr.size
      have bo:=(zu PV).bx.c1
      have lo:=(zu PV).bx.lt.2
      have bob:(v1.alloc (.cells #[.int .i64 f0,.string f1,.string f2] 81)).cell? ⟨w.heap.size+1+1+1,1,none⟩=some (.slice a (m) c):=((one_more v1 (.cells #[.int .i64 f0,.string f1,.string f2] 81)).cell (p:=⟨w.heap.size+1+1+1,1,none⟩) lo).trans bo
      have vs:=(zu PV).gr.size
      go_wp2_with (first|(at_builtin;refine wp_app _ rfl _ _ rfl W.heap.size (.slice a (m) c) (m) (flatF (L)) v1.heap.size [.int .i64 f0,.string f1,.string f2] rfl rfl (row_step (zu PV).ow (one_more v1 (.cells #[.int .i64 f0,.string f1,.string f2] 81))) rfl (litm v1 _ _ _ (by rfl)) (by simp[Value.oneCell']) (by omega) (Nat.le_trans vs (by simp)) ?_)|go_in)
      intro g8 c8 u8 o8 gr8
      (try rw[←s3] at o8)
      have PA:=(zu PV).app (p:=(f0,f1,f2)) hO (one_more v1 (.cells #[.int .i64 f0,.string f1,.string f2] 81)) gr8 o8
      have bx8:=PA.1
      have b80:=bx8.c1
      have b81:=bx8.free 1
      have P8:=zh PA.2
      clear o8 gr8 PA bo bob bx8
      go_wp2_with fail
      generalize u8.setCell ⟨w.heap.size+1+1+1,1,none⟩ (.slice (some ⟨g8,0,none⟩) (m+1) c8)=v2 at *
      have NX:=zh (show putN x.ps (f0,f1,f2) (k+1)=((L++[(f0,f1,f2)])++[(z0,z1,z2)],true) from by rw[putN_succ (zu HP),zu EP];simp[PBV,qe,QF])
      have hq:(z0 !=f0)=true:=by simp[qe]
      clear qe
      have u2c:=(kcell (zu P8).gr 1 wl0 (by omega)).trans (zu HC)
      have u20:=(kcell (zu P8).gr (k*3) lg gn).trans (zu D0)
      have u21:=(kcell (zu P8).gr (k*3+1) lg gn).trans (zu D1)
      have u22:=(kcell (zu P8).gr (k*3+2) lg gn).trans (zu D2)
      have u2f:=(kcell (zu P8).gr 0 wl1 (by omega)).trans (zu F0)
      have u2g:=(kcell (zu P8).gr 1 wl1 (by omega)).trans (zu F1)
      have u2h:=(kcell (zu P8).gr 2 wl1 (by omega)).trans (zu F2)
      have u2s:=(zu P8).gr.size
      have K2:v2.cell? ⟨w.heap.size,1,none⟩=some (.slice (some ⟨g,0,none⟩) x.ps.length x.c)∧v2.cell? ⟨g,k*3,none⟩=some (.int .i64 z0)∧v2.cell? ⟨w.heap.size+1,0,none⟩=some (.int .i64 f0):=⟨u2c,u20,u2f⟩
      refine wp_region_held_drew (S:=(fun w'=>w'.cell? ⟨w.heap.size,1,none⟩=some (.slice (some ⟨g,0,none⟩) x.ps.length x.c)∧w'.cell? ⟨g,k*3,none⟩=some (.int .i64 z0)∧w'.cell? ⟨w.heap.size+1,0,none⟩=some (.int .i64 f0))) (by kernel_rfl) K2 (fun hHeld=>?_)
      refine zT 0 37 (.pointer (some ⟨w.heap.size,1,none⟩)) rfl hHeld ?_
      try simp only[Act.put,zA,zB,zC]
      refine zT 1 38 (.slice (some ⟨g,0,none⟩) x.ps.length x.c) rfl hHeld ?_
      try simp only[Act.put,zA,zB,zC]
      refine zT 2 39 (.int .i64 k) rfl hHeld ?_
      try simp only[Act.put,zA,zB,zC]
      refine zT 3 40 (.pointer (some ⟨g,k*3,none⟩)) rfl hHeld ?_
      try simp only[Act.put,zA,zB,zC]
      refine zT 4 41 (.pointer (some ⟨g,k*3,none⟩)) rfl hHeld ?_
      try simp only[Act.put,zA,zB,zC]
      refine zT 5 42 (.int .i64 z0) rfl hHeld ?_
      try simp only[Act.put,zA,zB,zC]
      refine zT 6 43 (.pointer (some ⟨w.heap.size+1,0,none⟩)) rfl hHeld ?_
      try simp only[Act.put,zA,zB,zC]
      refine zT 7 44 (.int .i64 f0) rfl hHeld ?_
      try simp only[Act.put,zA,zB,zC]
      refine zT 8 45 (.bool true) rfl hHeld ?_
      try simp only[Act.put,zA,zB,zC]
      refine wpAnyH_done (by kernel_rfl) ?_ _
      have P8D:=zh (zu P8).drew
      go_wp2_with fail
      generalize v2.drew=q2 at *
      have u3c:=(kcell (zu P8D).gr 1 wl0 (by omega)).trans (zu HC)
      have u30:=(kcell (zu P8D).gr (k*3) lg gn).trans (zu D0)
      have u31:=(kcell (zu P8D).gr (k*3+1) lg gn).trans (zu D1)
      have u32:=(kcell (zu P8D).gr (k*3+2) lg gn).trans (zu D2)
      have u3f:=(kcell (zu P8D).gr 0 wl1 (by omega)).trans (zu F0)
      have u3g:=(kcell (zu P8D).gr 1 wl1 (by omega)).trans (zu F1)
      have u3h:=(kcell (zu P8D).gr 2 wl1 (by omega)).trans (zu F2)
      have u3s:=(zu P8D).gr.size
      have K0:q2.cell? ⟨w.heap.size,1,none⟩=some (.slice (some ⟨g,0,none⟩) x.ps.length x.c)∧q2.cell? ⟨g,k*3,none⟩=some (.int .i64 z0)∧q2.cell? ⟨g,k*3+1,none⟩=some (.string z1)∧q2.cell? ⟨g,k*3+2,none⟩=some (.string z2):=⟨u3c,u30,u31,u32⟩
      have KB:(q2.drew.alloc (.cells #[.int .i64 z0,.string z1,.string z2] 81)).cell? ⟨w.heap.size,1,none⟩=some (.slice (some ⟨g,0,none⟩) x.ps.length x.c)∧(q2.drew.alloc (.cells #[.int .i64 z0,.string z1,.string z2] 81)).cell? ⟨g,k*3,none⟩=some (.int .i64 z0)∧(q2.drew.alloc (.cells #[.int .i64 z0,.string z1,.string z2] 81)).cell? ⟨g,k*3+1,none⟩=some (.string z1)∧(q2.drew.alloc (.cells #[.int .i64 z0,.string z1,.string z2] 81)).cell? ⟨g,k*3+2,none⟩=some (.string z2):=⟨((one_more q2.drew (.cells #[.int .i64 z0,.string z1,.string z2] 81)).cell (p:=⟨w.heap.size,1,none⟩) (show w.heap.size<q2.heap.size from by omega)).trans u3c,((one_more q2.drew (.cells #[.int .i64 z0,.string z1,.string z2] 81)).cell (p:=⟨g,k*3,none⟩) (show g<q2.heap.size from by omega)).trans u30,((one_more q2.drew (.cells #[.int .i64 z0,.string z1,.string z2] 81)).cell (p:=⟨g,k*3+1,none⟩) (show g<q2.heap.size from by omega)).trans u31,((one_more q2.drew (.cells #[.int .i64 z0,.string z1,.string z2] 81)).cell (p:=⟨g,k*3+2,none⟩) (show g<q2.heap.size from by omega)).trans u32⟩
      have bc:=(zu P8D).bx.c1
      have lo9:=(zu P8D).bx.lt.2
      have bcD:q2.drew.cell? ⟨w.heap.size+1+1+1,1,none⟩=some (.slice (some ⟨g8,0,none⟩) ((m+1)) c8):=bc
      have bcA:(q2.alloc (.cells #[.int .i64 z0,.string z1,.string z2] 81)).cell? ⟨w.heap.size+1+1+1,1,none⟩=some (.slice (some ⟨g8,0,none⟩) ((m+1)) c8):=((one_more q2.drew (.cells #[.int .i64 z0,.string z1,.string z2] 81)).cell (p:=⟨w.heap.size+1+1+1,1,none⟩) lo9).trans bc
      refine wp_region_held_drew (S:=(fun w'=>w'.cell? ⟨w.heap.size,1,none⟩=some (.slice (some ⟨g,0,none⟩) x.ps.length x.c)∧w'.cell? ⟨g,k*3,none⟩=some (.int .i64 z0)∧w'.cell? ⟨g,k*3+1,none⟩=some (.string z1)∧w'.cell? ⟨g,k*3+2,none⟩=some (.string z2))) (by kernel_rfl) K0 (fun hHeld=>?_)
      refine zT 0 46 (.pointer (some ⟨w.heap.size+1+1+1,1,none⟩)) rfl hHeld ?_
      try simp only[Act.put,zA,zB,zC]
      refine zT 2 48 (.pointer (some ⟨w.heap.size,1,none⟩)) rfl hHeld ?_
      try simp only[Act.put,zA,zB,zC]
      refine zT 3 49 (.slice (some ⟨g,0,none⟩) x.ps.length x.c) rfl hHeld ?_
      try simp only[Act.put,zA,zB,zC]
      refine zT 4 50 (.int .i64 k) rfl hHeld ?_
      try simp only[Act.put,zA,zB,zC]
      refine zT 5 51 (.pointer (some ⟨g,k*3,none⟩)) rfl hHeld ?_
      try simp only[Act.put,zA,zB,zC]
      refine zT 6 52 (.agg #[.int .i64 z0,.string z1,.string z2]) rfl hHeld ?_
      try simp only[Act.put,zA,zB,zC]
      refine wpAnyH_ready (rs:=[1,7]) (by kernel_rfl) (by simp) ?_
      refine AllReadyH.cons rfl (fun K hK=>?_) (AllReadyH.cons rfl (fun K hK=>?_) AllReadyH.nil)
      ·go_simp
       refine hK.out _ _ K0 (fun hHeld=>?_)
       clear hK K
       try simp only[Act.put,zA,zB,zC]
       refine zR 7 rfl (fun K hK=>?_)
       go_simp
       refine hK.out _ _ KB (fun hHeld=>?_)
       clear hK K
       try simp only[Act.put,zA,zB,zC]
       refine zR 8 rfl (fun K hK=>?_)
       refine step_app (q2.drew.alloc (.cells #[.int .i64 z0,.string z1,.string z2] 81)) (by rfl) _ _ 35 81 (by rfl) (.agg #[.int .i64 0,.string ByteArray.empty,.string ByteArray.empty]) 3 40 Tryz.underlying35 HelpF14.info2 rfl (by decide) (by decide) W.heap.size (.slice (some ⟨g8,0,none⟩) ((m+1)) c8) ((m+1)) (flatF ((L++[(f0,f1,f2)]))) q2.drew.heap.size [.int .i64 z0,.string z1,.string z2] (by rfl) (by rfl) (row_step (W:=q2.drew) (zu P8D).ow (one_more q2.drew (.cells #[.int .i64 z0,.string z1,.string z2] 81))) rfl (litm q2.drew _ _ _ (by rfl)) (by simp[Value.oneCell']) (by omega) (Nat.le_trans (show W.heap.size≤q2.drew.heap.size from u3s) (by simp)) ?_
       intro g9 c9 u9 o9 gr9
       have BL:=(zu P8D).off
       have PA:=(zu P8D).app (p:=(z0,z1,z2)) hO ((Below.refl _ _).drew.alloc (Nat.le_refl _) (.cells #[.int .i64 z0,.string z1,.string z2] 81)) gr9 o9
       have bx9:=PA.1
       have bc9:=bx9.c1
       have fr9:=bx9.free 1
       have P9:=zh PA.2
       have us9:=gr9.size
       simp at us9
       have KC:u9.cell? ⟨w.heap.size,1,none⟩=some (.slice (some ⟨g,0,none⟩) x.ps.length x.c)∧u9.cell? ⟨g,k*3,none⟩=some (.int .i64 z0)∧u9.cell? ⟨g,k*3+1,none⟩=some (.string z1)∧u9.cell? ⟨g,k*3+2,none⟩=some (.string z2):=⟨gr9.cell KB.1 (fun e=>by have:=BL _ e.symm;simp only at this;omega),gr9.cell KB.2.1 (fun e=>by have:=BL _ e.symm;simp only at this;omega),gr9.cell KB.2.2.1 (fun e=>by have:=BL _ e.symm;simp only at this;omega),gr9.cell KB.2.2.2 (fun e=>by have:=BL _ e.symm;simp only at this;omega)⟩
       have SB:=bc_set1 bx9 (.slice (some ⟨g9,0,none⟩) ((m+1)+1) c9)
       have KD:(u9.setCell ⟨w.heap.size+1+1+1,1,none⟩ (.slice (some ⟨g9,0,none⟩) ((m+1)+1) c9)).cell? ⟨w.heap.size,1,none⟩=some (.slice (some ⟨g,0,none⟩) x.ps.length x.c)∧(u9.setCell ⟨w.heap.size+1+1+1,1,none⟩ (.slice (some ⟨g9,0,none⟩) ((m+1)+1) c9)).cell? ⟨g,k*3,none⟩=some (.int .i64 z0)∧(u9.setCell ⟨w.heap.size+1+1+1,1,none⟩ (.slice (some ⟨g9,0,none⟩) ((m+1)+1) c9)).cell? ⟨g,k*3+1,none⟩=some (.string z1)∧(u9.setCell ⟨w.heap.size+1+1+1,1,none⟩ (.slice (some ⟨g9,0,none⟩) ((m+1)+1) c9)).cell? ⟨g,k*3+2,none⟩=some (.string z2):=⟨(kcell SB.2 (1) (show w.heap.size<u9.heap.size from by omega) (show w.heap.size≠w.heap.size+1+1+1 from by omega)).trans KC.1,(kcell SB.2 (k*3) (show g<u9.heap.size from by omega) (show g≠w.heap.size+1+1+1 from by omega)).trans KC.2.1,(kcell SB.2 (k*3+1) (show g<u9.heap.size from by omega) (show g≠w.heap.size+1+1+1 from by omega)).trans KC.2.2.1,(kcell SB.2 (k*3+2) (show g<u9.heap.size from by omega) (show g≠w.heap.size+1+1+1 from by omega)).trans KC.2.2.2⟩
       clear o9 gr9 PA SB bx9 BL
       refine hK.out _ _ KC (fun hHeld=>?_)
       clear hK K
       try simp only[Act.put,zA,zB,zC]
       refine zT 9 55 (.pointer (some ⟨w.heap.size+1+1+1,1,none⟩)) rfl hHeld ?_
       try simp only[Act.put,zA,zB,zC]
       refine zR 10 rfl (fun K hK=>?_)
       go_simp
       refine hK.out _ _ KD (fun hHeld=>?_)
       clear hK K
       try simp only[Act.put,zA,zB,zC]
       refine wpAnyH_done (by kernel_rfl) ?_ _
       clear K0 KB KC KD bc bcD bcA bc9 fr9
       go_wp2
       go_roundw
       case rel=>exact⟨k+1,(m+1)+1,c9,some ⟨g9,0,none⟩,(L++[(f0,f1,f2)])++[(z0,z1,z2)],true,rfl,by go_num,by omega,by omega,NX,P9⟩
       case measure=>simp[intOf];omega
      ·go_simp
       refine hK.out _ _ KB (fun hHeld=>?_)
       clear hK K
       try simp only[Act.put,zA,zB,zC]
       refine zR 1 rfl (fun K hK=>?_)
       go_simp
       refine hK.out _ _ KB (fun hHeld=>?_)
       clear hK K
       try simp only[Act.put,zA,zB,zC]
       refine zR 8 rfl (fun K hK=>?_)
       refine step_app (q2.drew.alloc (.cells #[.int .i64 z0,.string z1,.string z2] 81)) (by rfl) _ _ 35 81 (by rfl) (.agg #[.int .i64 0,.string ByteArray.empty,.string ByteArray.empty]) 3 40 Tryz.underlying35 HelpF14.info2 rfl (by decide) (by decide) W.heap.size (.slice (some ⟨g8,0,none⟩) ((m+1)) c8) ((m+1)) (flatF ((L++[(f0,f1,f2)]))) q2.drew.heap.size [.int .i64 z0,.string z1,.string z2] (by rfl) (by rfl) (row_step (W:=q2.drew) (zu P8D).ow (one_more q2.drew (.cells #[.int .i64 z0,.string z1,.string z2] 81))) rfl (litm q2.drew _ _ _ (by rfl)) (by simp[Value.oneCell']) (by omega) (Nat.le_trans (show W.heap.size≤q2.drew.heap.size from u3s) (by simp)) ?_
       intro g9 c9 u9 o9 gr9
       have BL:=(zu P8D).off
       have PA:=(zu P8D).app (p:=(z0,z1,z2)) hO ((Below.refl _ _).drew.alloc (Nat.le_refl _) (.cells #[.int .i64 z0,.string z1,.string z2] 81)) gr9 o9
       have bx9:=PA.1
       have bc9:=bx9.c1
       have fr9:=bx9.free 1
       have P9:=zh PA.2
       have us9:=gr9.size
       simp at us9
       have KC:u9.cell? ⟨w.heap.size,1,none⟩=some (.slice (some ⟨g,0,none⟩) x.ps.length x.c)∧u9.cell? ⟨g,k*3,none⟩=some (.int .i64 z0)∧u9.cell? ⟨g,k*3+1,none⟩=some (.string z1)∧u9.cell? ⟨g,k*3+2,none⟩=some (.string z2):=⟨gr9.cell KB.1 (fun e=>by have:=BL _ e.symm;simp only at this;omega),gr9.cell KB.2.1 (fun e=>by have:=BL _ e.symm;simp only at this;omega),gr9.cell KB.2.2.1 (fun e=>by have:=BL _ e.symm;simp only at this;omega),gr9.cell KB.2.2.2 (fun e=>by have:=BL _ e.symm;simp only at this;omega)⟩
       have SB:=bc_set1 bx9 (.slice (some ⟨g9,0,none⟩) ((m+1)+1) c9)
       have KD:(u9.setCell ⟨w.heap.size+1+1+1,1,none⟩ (.slice (some ⟨g9,0,none⟩) ((m+1)+1) c9)).cell? ⟨w.heap.size,1,none⟩=some (.slice (some ⟨g,0,none⟩) x.ps.length x.c)∧(u9.setCell ⟨w.heap.size+1+1+1,1,none⟩ (.slice (some ⟨g9,0,none⟩) ((m+1)+1) c9)).cell? ⟨g,k*3,none⟩=some (.int .i64 z0)∧(u9.setCell ⟨w.heap.size+1+1+1,1,none⟩ (.slice (some ⟨g9,0,none⟩) ((m+1)+1) c9)).cell? ⟨g,k*3+1,none⟩=some (.string z1)∧(u9.setCell ⟨w.heap.size+1+1+1,1,none⟩ (.slice (some ⟨g9,0,none⟩) ((m+1)+1) c9)).cell? ⟨g,k*3+2,none⟩=some (.string z2):=⟨(kcell SB.2 (1) (show w.heap.size<u9.heap.size from by omega) (show w.heap.size≠w.heap.size+1+1+1 from by omega)).trans KC.1,(kcell SB.2 (k*3) (show g<u9.heap.size from by omega) (show g≠w.heap.size+1+1+1 from by omega)).trans KC.2.1,(kcell SB.2 (k*3+1) (show g<u9.heap.size from by omega) (show g≠w.heap.size+1+1+1 from by omega)).trans KC.2.2.1,(kcell SB.2 (k*3+2) (show g<u9.heap.size from by omega) (show g≠w.heap.size+1+1+1 from by omega)).trans KC.2.2.2⟩
       clear o9 gr9 PA SB bx9 BL
       refine hK.out _ _ KC (fun hHeld=>?_)
       clear hK K
       try simp only[Act.put,zA,zB,zC]
       refine zT 9 55 (.pointer (some ⟨w.heap.size+1+1+1,1,none⟩)) rfl hHeld ?_
       try simp only[Act.put,zA,zB,zC]
       refine zR 10 rfl (fun K hK=>?_)
       go_simp
       refine hK.out _ _ KD (fun hHeld=>?_)
       clear hK K
       try simp only[Act.put,zA,zB,zC]
       refine wpAnyH_done (by kernel_rfl) ?_ _
       clear K0 KB KC KD bc bcD bcA bc9 fr9
       go_wp2
       go_roundw
       case rel=>exact⟨k+1,(m+1)+1,c9,some ⟨g9,0,none⟩,(L++[(f0,f1,f2)])++[(z0,z1,z2)],true,rfl,by go_num,by omega,by omega,NX,P9⟩
       case measure=>simp[intOf];omega
    ·have PBV:True:=trivial
     have QF:¬f0≤z0:=qf
     have hg:¬z0≥f0:=qf
     have qe:¬z0=f0:=by omega
     have K6:wr.cell? ⟨w.heap.size,1,none⟩=some (.slice (some ⟨g,0,none⟩) x.ps.length x.c)∧wr.cell? ⟨g,k*3,none⟩=some (.int .i64 z0)∧wr.cell? ⟨w.heap.size+1,0,none⟩=some (.int .i64 f0):=⟨u1c,u10,u1f⟩
     go_wp2_with fail
     refine wp_region_held_drew (S:=(fun w'=>w'.cell? ⟨w.heap.size,1,none⟩=some (.slice (some ⟨g,0,none⟩) x.ps.length x.c)∧w'.cell? ⟨g,k*3,none⟩=some (.int .i64 z0)∧w'.cell? ⟨w.heap.size+1,0,none⟩=some (.int .i64 f0))) (by kernel_rfl) K6 (fun hHeld=>?_)
     refine zT 0 18 (.bool false) rfl hHeld ?_
     try simp only[Act.put,zA,zB,zC]
     refine zT 1 19 (.bool true) rfl hHeld ?_
     try simp only[Act.put,zA,zB,zC]
     refine zT 2 20 (.bool true) rfl hHeld ?_
     try simp only[Act.put,zA,zB,zC]
     refine zT 3 21 (.pointer (some ⟨w.heap.size,1,none⟩)) rfl hHeld ?_
     try simp only[Act.put,zA,zB,zC]
     refine zT 4 22 (.slice (some ⟨g,0,none⟩) x.ps.length x.c) rfl hHeld ?_
     try simp only[Act.put,zA,zB,zC]
     refine zT 5 23 (.int .i64 k) rfl hHeld ?_
     try simp only[Act.put,zA,zB,zC]
     refine zT 6 24 (.pointer (some ⟨g,k*3,none⟩)) rfl hHeld ?_
     try simp only[Act.put,zA,zB,zC]
     refine zT 7 25 (.pointer (some ⟨g,k*3,none⟩)) rfl hHeld ?_
     try simp only[Act.put,zA,zB,zC]
     refine zT 8 26 (.int .i64 z0) rfl hHeld ?_
     try simp only[Act.put,zA,zB,zC]
     refine zT 9 27 (.pointer (some ⟨w.heap.size+1,0,none⟩)) rfl hHeld ?_
     try simp only[Act.put,zA,zB,zC]
     refine zT 10 28 (.int .i64 f0) rfl hHeld ?_
     try simp only[Act.put,zA,zB,zC]
     refine zT 11 29 (.bool false) rfl hHeld ?_
     try simp only[Act.put,zA,zB,zC]
     refine zT 12 30 (.bool false) rfl hHeld ?_
     try simp only[Act.put,zA,zB,zC]
     refine wpAnyH_done (by kernel_rfl) ?_ _
     have PV:=zh (zu HPt).drew
     go_wp2_with fail
     generalize wr.drew=v1 at *
     have NX:=zh (show putN x.ps (f0,f1,f2) (k+1)=(L++[(z0,z1,z2)],false) from by rw[putN_succ (zu HP),zu EP];simp[PBV,qe,QF])
     have hq:(z0 !=f0)=true:=by simp[qe]
     clear qe
     have u2c:=(kcell (zu PV).gr 1 wl0 (by omega)).trans (zu HC)
     have u20:=(kcell (zu PV).gr (k*3) lg gn).trans (zu D0)
     have u21:=(kcell (zu PV).gr (k*3+1) lg gn).trans (zu D1)
     have u22:=(kcell (zu PV).gr (k*3+2) lg gn).trans (zu D2)
     have u2f:=(kcell (zu PV).gr 0 wl1 (by omega)).trans (zu F0)
     have u2g:=(kcell (zu PV).gr 1 wl1 (by omega)).trans (zu F1)
     have u2h:=(kcell (zu PV).gr 2 wl1 (by omega)).trans (zu F2)
     have u2s:=(zu PV).gr.size
     have K2:v1.cell? ⟨w.heap.size,1,none⟩=some (.slice (some ⟨g,0,none⟩) x.ps.length x.c)∧v1.cell? ⟨g,k*3,none⟩=some (.int .i64 z0)∧v1.cell? ⟨w.heap.size+1,0,none⟩=some (.int .i64 f0):=⟨u2c,u20,u2f⟩
     refine wp_region_held_drew (S:=(fun w'=>w'.cell? ⟨w.heap.size,1,none⟩=some (.slice (some ⟨g,0,none⟩) x.ps.length x.c)∧w'.cell? ⟨g,k*3,none⟩=some (.int .i64 z0)∧w'.cell? ⟨w.heap.size+1,0,none⟩=some (.int .i64 f0))) (by kernel_rfl) K2 (fun hHeld=>?_)
     refine zT 0 37 (.pointer (some ⟨w.heap.size,1,none⟩)) rfl hHeld ?_
     try simp only[Act.put,zA,zB,zC]
     refine zT 1 38 (.slice (some ⟨g,0,none⟩) x.ps.length x.c) rfl hHeld ?_
     try simp only[Act.put,zA,zB,zC]
     refine zT 2 39 (.int .i64 k) rfl hHeld ?_
     try simp only[Act.put,zA,zB,zC]
     refine zT 3 40 (.pointer (some ⟨g,k*3,none⟩)) rfl hHeld ?_
     try simp only[Act.put,zA,zB,zC]
     refine zT 4 41 (.pointer (some ⟨g,k*3,none⟩)) rfl hHeld ?_
     try simp only[Act.put,zA,zB,zC]
     refine zT 5 42 (.int .i64 z0) rfl hHeld ?_
     try simp only[Act.put,zA,zB,zC]
     refine zT 6 43 (.pointer (some ⟨w.heap.size+1,0,none⟩)) rfl hHeld ?_
     try simp only[Act.put,zA,zB,zC]
     refine zT 7 44 (.int .i64 f0) rfl hHeld ?_
     try simp only[Act.put,zA,zB,zC]
     refine zT 8 45 (.bool true) rfl hHeld ?_
     try simp only[Act.put,zA,zB,zC]
     refine wpAnyH_done (by kernel_rfl) ?_ _
     have PVD:=zh (zu PV).drew
     go_wp2_with fail
     generalize v1.drew=q2 at *
     have u3c:=(kcell (zu PVD).gr 1 wl0 (by omega)).trans (zu HC)
     have u30:=(kcell (zu PVD).gr (k*3) lg gn).trans (zu D0)
     have u31:=(kcell (zu PVD).gr (k*3+1) lg gn).trans (zu D1)
     have u32:=(kcell (zu PVD).gr (k*3+2) lg gn).trans (zu D2)
     have u3f:=(kcell (zu PVD).gr 0 wl1 (by omega)).trans (zu F0)
     have u3g:=(kcell (zu PVD).gr 1 wl1 (by omega)).trans (zu F1)
     have u3h:=(kcell (zu PVD).gr 2 wl1 (by omega)).trans (zu F2)
     have u3s:=(zu PVD).gr.size
     have K0:q2.cell? ⟨w.heap.size,1,none⟩=some (.slice (some ⟨g,0,none⟩) x.ps.length x.c)∧q2.cell? ⟨g,k*3,none⟩=some (.int .i64 z0)∧q2.cell? ⟨g,k*3+1,none⟩=some (.string z1)∧q2.cell? ⟨g,k*3+2,none⟩=some (.string z2):=⟨u3c,u30,u31,u32⟩
     have KB:(q2.drew.alloc (.cells #[.int .i64 z0,.string z1,.string z2] 81)).cell? ⟨w.heap.size,1,none⟩=some (.slice (some ⟨g,0,none⟩) x.ps.length x.c)∧(q2.drew.alloc (.cells #[.int .i64 z0,.string z1,.string z2] 81)).cell? ⟨g,k*3,none⟩=some (.int .i64 z0)∧(q2.drew.alloc (.cells #[.int .i64 z0,.string z1,.string z2] 81)).cell? ⟨g,k*3+1,none⟩=some (.string z1)∧(q2.drew.alloc (.cells #[.int .i64 z0,.string z1,.string z2] 81)).cell? ⟨g,k*3+2,none⟩=some (.string z2):=⟨((one_more q2.drew (.cells #[.int .i64 z0,.string z1,.string z2] 81)).cell (p:=⟨w.heap.size,1,none⟩) (show w.heap.size<q2.heap.size from by omega)).trans u3c,((one_more q2.drew (.cells #[.int .i64 z0,.string z1,.string z2] 81)).cell (p:=⟨g,k*3,none⟩) (show g<q2.heap.size from by omega)).trans u30,((one_more q2.drew (.cells #[.int .i64 z0,.string z1,.string z2] 81)).cell (p:=⟨g,k*3+1,none⟩) (show g<q2.heap.size from by omega)).trans u31,((one_more q2.drew (.cells #[.int .i64 z0,.string z1,.string z2] 81)).cell (p:=⟨g,k*3+2,none⟩) (show g<q2.heap.size from by omega)).trans u32⟩
     have bc:=(zu PVD).bx.c1
     have lo9:=(zu PVD).bx.lt.2
     have bcD:q2.drew.cell? ⟨w.heap.size+1+1+1,1,none⟩=some (.slice a (m) c):=bc
     have bcA:(q2.alloc (.cells #[.int .i64 z0,.string z1,.string z2] 81)).cell? ⟨w.heap.size+1+1+1,1,none⟩=some (.slice a (m) c):=((one_more q2.drew (.cells #[.int .i64 z0,.string z1,.string z2] 81)).cell (p:=⟨w.heap.size+1+1+1,1,none⟩) lo9).trans bc
     refine wp_region_held_drew (S:=(fun w'=>w'.cell? ⟨w.heap.size,1,none⟩=some (.slice (some ⟨g,0,none⟩) x.ps.length x.c)∧w'.cell? ⟨g,k*3,none⟩=some (.int .i64 z0)∧w'.cell? ⟨g,k*3+1,none⟩=some (.string z1)∧w'.cell? ⟨g,k*3+2,none⟩=some (.string z2))) (by kernel_rfl) K0 (fun hHeld=>?_)
     refine zT 0 46 (.pointer (some ⟨w.heap.size+1+1+1,1,none⟩)) rfl hHeld ?_
     try simp only[Act.put,zA,zB,zC]
     refine zT 2 48 (.pointer (some ⟨w.heap.size,1,none⟩)) rfl hHeld ?_
     try simp only[Act.put,zA,zB,zC]
     refine zT 3 49 (.slice (some ⟨g,0,none⟩) x.ps.length x.c) rfl hHeld ?_
     try simp only[Act.put,zA,zB,zC]
     refine zT 4 50 (.int .i64 k) rfl hHeld ?_
     try simp only[Act.put,zA,zB,zC]
     refine zT 5 51 (.pointer (some ⟨g,k*3,none⟩)) rfl hHeld ?_
     try simp only[Act.put,zA,zB,zC]
     refine zT 6 52 (.agg #[.int .i64 z0,.string z1,.string z2]) rfl hHeld ?_
     try simp only[Act.put,zA,zB,zC]
     refine wpAnyH_ready (rs:=[1,7]) (by kernel_rfl) (by simp) ?_
     refine AllReadyH.cons rfl (fun K hK=>?_) (AllReadyH.cons rfl (fun K hK=>?_) AllReadyH.nil)
     ·go_simp
      refine hK.out _ _ K0 (fun hHeld=>?_)
      clear hK K
      try simp only[Act.put,zA,zB,zC]
      refine zR 7 rfl (fun K hK=>?_)
      go_simp
      refine hK.out _ _ KB (fun hHeld=>?_)
      clear hK K
      try simp only[Act.put,zA,zB,zC]
      refine zR 8 rfl (fun K hK=>?_)
      refine step_app (q2.drew.alloc (.cells #[.int .i64 z0,.string z1,.string z2] 81)) (by rfl) _ _ 35 81 (by rfl) (.agg #[.int .i64 0,.string ByteArray.empty,.string ByteArray.empty]) 3 40 Tryz.underlying35 HelpF14.info2 rfl (by decide) (by decide) W.heap.size (.slice a (m) c) (m) (flatF (L)) q2.drew.heap.size [.int .i64 z0,.string z1,.string z2] (by rfl) (by rfl) (row_step (W:=q2.drew) (zu PVD).ow (one_more q2.drew (.cells #[.int .i64 z0,.string z1,.string z2] 81))) rfl (litm q2.drew _ _ _ (by rfl)) (by simp[Value.oneCell']) (by omega) (Nat.le_trans (show W.heap.size≤q2.drew.heap.size from u3s) (by simp)) ?_
      intro g9 c9 u9 o9 gr9
      have BL:=(zu PVD).off
      have PA:=(zu PVD).app (p:=(z0,z1,z2)) hO ((Below.refl _ _).drew.alloc (Nat.le_refl _) (.cells #[.int .i64 z0,.string z1,.string z2] 81)) gr9 o9
      have bx9:=PA.1
      have bc9:=bx9.c1
      have fr9:=bx9.free 1
      have P9:=zh PA.2
      have us9:=gr9.size
      simp at us9
      have KC:u9.cell? ⟨w.heap.size,1,none⟩=some (.slice (some ⟨g,0,none⟩) x.ps.length x.c)∧u9.cell? ⟨g,k*3,none⟩=some (.int .i64 z0)∧u9.cell? ⟨g,k*3+1,none⟩=some (.string z1)∧u9.cell? ⟨g,k*3+2,none⟩=some (.string z2):=⟨gr9.cell KB.1 (fun e=>by have:=BL _ e.symm;simp only at this;omega),gr9.cell KB.2.1 (fun e=>by have:=BL _ e.symm;simp only at this;omega),gr9.cell KB.2.2.1 (fun e=>by have:=BL _ e.symm;simp only at this;omega),gr9.cell KB.2.2.2 (fun e=>by have:=BL _ e.symm;simp only at this;omega)⟩
      have SB:=bc_set1 bx9 (.slice (some ⟨g9,0,none⟩) (m+1) c9)
      have KD:(u9.setCell ⟨w.heap.size+1+1+1,1,none⟩ (.slice (some ⟨g9,0,none⟩) (m+1) c9)).cell? ⟨w.heap.size,1,none⟩=some (.slice (some ⟨g,0,none⟩) x.ps.length x.c)∧(u9.setCell ⟨w.heap.size+1+1+1,1,none⟩ (.slice (some ⟨g9,0,none⟩) (m+1) c9)).cell? ⟨g,k*3,none⟩=some (.int .i64 z0)∧(u9.setCell ⟨w.heap.size+1+1+1,1,none⟩ (.slice (some ⟨g9,0,none⟩) (m+1) c9)).cell? ⟨g,k*3+1,none⟩=some (.string z1)∧(u9.setCell ⟨w.heap.size+1+1+1,1,none⟩ (.slice (some ⟨g9,0,none⟩) (m+1) c9)).cell? ⟨g,k*3+2,none⟩=some (.string z2):=⟨(kcell SB.2 (1) (show w.heap.size<u9.heap.size from by omega) (show w.heap.size≠w.heap.size+1+1+1 from by omega)).trans KC.1,(kcell SB.2 (k*3) (show g<u9.heap.size from by omega) (show g≠w.heap.size+1+1+1 from by omega)).trans KC.2.1,(kcell SB.2 (k*3+1) (show g<u9.heap.size from by omega) (show g≠w.heap.size+1+1+1 from by omega)).trans KC.2.2.1,(kcell SB.2 (k*3+2) (show g<u9.heap.size from by omega) (show g≠w.heap.size+1+1+1 from by omega)).trans KC.2.2.2⟩
      clear o9 gr9 PA SB bx9 BL
      refine hK.out _ _ KC (fun hHeld=>?_)
      clear hK K
      try simp only[Act.put,zA,zB,zC]
      refine zT 9 55 (.pointer (some ⟨w.heap.size+1+1+1,1,none⟩)) rfl hHeld ?_
      try simp only[Act.put,zA,zB,zC]
      refine zR 10 rfl (fun K hK=>?_)
      go_simp
      refine hK.out _ _ KD (fun hHeld=>?_)
      clear hK K
      try simp only[Act.put,zA,zB,zC]
      refine wpAnyH_done (by kernel_rfl) ?_ _
      clear K0 KB KC KD bc bcD bcA bc9 fr9
      go_wp2
      go_roundw
      case rel=>exact⟨k+1,m+1,c9,some ⟨g9,0,none⟩,L++[(z0,z1,z2)],false,rfl,by go_num,by omega,by omega,NX,P9⟩
      case measure=>simp[intOf];omega
     ·go_simp
      refine hK.out _ _ KB (fun hHeld=>?_)
      clear hK K
      try simp only[Act.put,zA,zB,zC]
      refine zR 1 rfl (fun K hK=>?_)
      go_simp
      refine hK.out _ _ KB (fun hHeld=>?_)
      clear hK K
      try simp only[Act.put,zA,zB,zC]
      refine zR 8 rfl (fun K hK=>?_)
      refine step_app (q2.drew.alloc (.cells #[.int .i64 z0,.string z1,.string z2] 81)) (by rfl) _ _ 35 81 (by rfl) (.agg #[.int .i64 0,.string ByteArray.empty,.string ByteArray.empty]) 3 40 Tryz.underlying35 HelpF14.info2 rfl (by decide) (by decide) W.heap.size (.slice a (m) c) (m) (flatF (L)) q2.drew.heap.size [.int .i64 z0,.string z1,.string z2] (by rfl) (by rfl) (row_step (W:=q2.drew) (zu PVD).ow (one_more q2.drew (.cells #[.int .i64 z0,.string z1,.string z2] 81))) rfl (litm q2.drew _ _ _ (by rfl)) (by simp[Value.oneCell']) (by omega) (Nat.le_trans (show W.heap.size≤q2.drew.heap.size from u3s) (by simp)) ?_
      intro g9 c9 u9 o9 gr9
      have BL:=(zu PVD).off
      have PA:=(zu PVD).app (p:=(z0,z1,z2)) hO ((Below.refl _ _).drew.alloc (Nat.le_refl _) (.cells #[.int .i64 z0,.string z1,.string z2] 81)) gr9 o9
      have bx9:=PA.1
      have bc9:=bx9.c1
      have fr9:=bx9.free 1
      have P9:=zh PA.2
      have us9:=gr9.size
      simp at us9
      have KC:u9.cell? ⟨w.heap.size,1,none⟩=some (.slice (some ⟨g,0,none⟩) x.ps.length x.c)∧u9.cell? ⟨g,k*3,none⟩=some (.int .i64 z0)∧u9.cell? ⟨g,k*3+1,none⟩=some (.string z1)∧u9.cell? ⟨g,k*3+2,none⟩=some (.string z2):=⟨gr9.cell KB.1 (fun e=>by have:=BL _ e.symm;simp only at this;omega),gr9.cell KB.2.1 (fun e=>by have:=BL _ e.symm;simp only at this;omega),gr9.cell KB.2.2.1 (fun e=>by have:=BL _ e.symm;simp only at this;omega),gr9.cell KB.2.2.2 (fun e=>by have:=BL _ e.symm;simp only at this;omega)⟩
      have SB:=bc_set1 bx9 (.slice (some ⟨g9,0,none⟩) (m+1) c9)
      have KD:(u9.setCell ⟨w.heap.size+1+1+1,1,none⟩ (.slice (some ⟨g9,0,none⟩) (m+1) c9)).cell? ⟨w.heap.size,1,none⟩=some (.slice (some ⟨g,0,none⟩) x.ps.length x.c)∧(u9.setCell ⟨w.heap.size+1+1+1,1,none⟩ (.slice (some ⟨g9,0,none⟩) (m+1) c9)).cell? ⟨g,k*3,none⟩=some (.int .i64 z0)∧(u9.setCell ⟨w.heap.size+1+1+1,1,none⟩ (.slice (some ⟨g9,0,none⟩) (m+1) c9)).cell? ⟨g,k*3+1,none⟩=some (.string z1)∧(u9.setCell ⟨w.heap.size+1+1+1,1,none⟩ (.slice (some ⟨g9,0,none⟩) (m+1) c9)).cell? ⟨g,k*3+2,none⟩=some (.string z2):=⟨(kcell SB.2 (1) (show w.heap.size<u9.heap.size from by omega) (show w.heap.size≠w.heap.size+1+1+1 from by omega)).trans KC.1,(kcell SB.2 (k*3) (show g<u9.heap.size from by omega) (show g≠w.heap.size+1+1+1 from by omega)).trans KC.2.1,(kcell SB.2 (k*3+1) (show g<u9.heap.size from by omega) (show g≠w.heap.size+1+1+1 from by omega)).trans KC.2.2.1,(kcell SB.2 (k*3+2) (show g<u9.heap.size from by omega) (show g≠w.heap.size+1+1+1 from by omega)).trans KC.2.2.2⟩
      clear o9 gr9 PA SB bx9 BL
      refine hK.out _ _ KC (fun hHeld=>?_)
      clear hK K
      try simp only[Act.put,zA,zB,zC]
      refine zT 9 55 (.pointer (some ⟨w.heap.size+1+1+1,1,none⟩)) rfl hHeld ?_
      try simp only[Act.put,zA,zB,zC]
      refine zR 10 rfl (fun K hK=>?_)
      go_simp
      refine hK.out _ _ KD (fun hHeld=>?_)
      clear hK K
      try simp only[Act.put,zA,zB,zC]
      refine wpAnyH_done (by kernel_rfl) ?_ _
      clear K0 KB KC KD bc bcD bcA bc9 fr9
      go_wp2
      go_roundw
      case rel=>exact⟨k+1,m+1,c9,some ⟨g9,0,none⟩,L++[(z0,z1,z2)],false,rfl,by go_num,by omega,by omega,NX,P9⟩
      case measure=>simp[intOf];omega
   ·have PBV:True:=trivial
    have QF:True:=trivial
    by_cases qe:z0=f0
    ·have K6:wr.cell? ⟨w.heap.size,1,none⟩=some (.slice (some ⟨g,0,none⟩) x.ps.length x.c)∧wr.cell? ⟨g,k*3,none⟩=some (.int .i64 z0)∧wr.cell? ⟨w.heap.size+1,0,none⟩=some (.int .i64 f0):=⟨u1c,u10,u1f⟩
     go_wp2_with fail
     refine wp_region_held_drew (S:=(fun w'=>w'.cell? ⟨w.heap.size,1,none⟩=some (.slice (some ⟨g,0,none⟩) x.ps.length x.c)∧w'.cell? ⟨g,k*3,none⟩=some (.int .i64 z0)∧w'.cell? ⟨w.heap.size+1,0,none⟩=some (.int .i64 f0))) (by kernel_rfl) K6 (fun hHeld=>?_)
     refine zT 0 18 (.bool true) rfl hHeld ?_
     try simp only[Act.put,zA,zB,zC]
     refine zT 1 19 (.bool false) rfl hHeld ?_
     try simp only[Act.put,zA,zB,zC]
     refine zT 2 20 (.bool false) rfl hHeld ?_
     try simp only[Act.put,zA,zB,zC]
     refine zS 3 21 rfl hHeld ?_
     try simp only[Act.put,zA,zB,zC]
     refine zS 4 22 rfl hHeld ?_
     try simp only[Act.put,zA,zB,zC]
     refine zS 5 23 rfl hHeld ?_
     try simp only[Act.put,zA,zB,zC]
     refine zS 6 24 rfl hHeld ?_
     try simp only[Act.put,zA,zB,zC]
     refine zS 7 25 rfl hHeld ?_
     try simp only[Act.put,zA,zB,zC]
     refine zS 8 26 rfl hHeld ?_
     try simp only[Act.put,zA,zB,zC]
     refine zS 9 27 rfl hHeld ?_
     try simp only[Act.put,zA,zB,zC]
     refine zS 10 28 rfl hHeld ?_
     try simp only[Act.put,zA,zB,zC]
     refine zS 11 29 rfl hHeld ?_
     try simp only[Act.put,zA,zB,zC]
     refine zT 12 30 (.bool false) rfl hHeld ?_
     try simp only[Act.put,zA,zB,zC]
     refine wpAnyH_done (by kernel_rfl) ?_ _
     have PV:=zh (zu HPt).drew
     go_wp2_with fail
     generalize wr.drew=v1 at *
     have NX:=zh (show putN x.ps (f0,f1,f2) (k+1)=(L,true) from by rw[putN_succ (zu HP),zu EP];simp[PBV,qe,QF])
     have hq:(z0 !=f0)=false:=by simp[qe]
     clear qe
     have u2c:=(kcell (zu PV).gr 1 wl0 (by omega)).trans (zu HC)
     have u20:=(kcell (zu PV).gr (k*3) lg gn).trans (zu D0)
     have u21:=(kcell (zu PV).gr (k*3+1) lg gn).trans (zu D1)
     have u22:=(kcell (zu PV).gr (k*3+2) lg gn).trans (zu D2)
     have u2f:=(kcell (zu PV).gr 0 wl1 (by omega)).trans (zu F0)
     have u2g:=(kcell (zu PV).gr 1 wl1 (by omega)).trans (zu F1)
     have u2h:=(kcell (zu PV).gr 2 wl1 (by omega)).trans (zu F2)
     have u2s:=(zu PV).gr.size
     have K2:v1.cell? ⟨w.heap.size,1,none⟩=some (.slice (some ⟨g,0,none⟩) x.ps.length x.c)∧v1.cell? ⟨g,k*3,none⟩=some (.int .i64 z0)∧v1.cell? ⟨w.heap.size+1,0,none⟩=some (.int .i64 f0):=⟨u2c,u20,u2f⟩
     refine wp_region_held_drew (S:=(fun w'=>w'.cell? ⟨w.heap.size,1,none⟩=some (.slice (some ⟨g,0,none⟩) x.ps.length x.c)∧w'.cell? ⟨g,k*3,none⟩=some (.int .i64 z0)∧w'.cell? ⟨w.heap.size+1,0,none⟩=some (.int .i64 f0))) (by kernel_rfl) K2 (fun hHeld=>?_)
     refine zT 0 37 (.pointer (some ⟨w.heap.size,1,none⟩)) rfl hHeld ?_
     try simp only[Act.put,zA,zB,zC]
     refine zT 1 38 (.slice (some ⟨g,0,none⟩) x.ps.length x.c) rfl hHeld ?_
     try simp only[Act.put,zA,zB,zC]
     refine zT 2 39 (.int .i64 k) rfl hHeld ?_
     try simp only[Act.put,zA,zB,zC]
     refine zT 3 40 (.pointer (some ⟨g,k*3,none⟩)) rfl hHeld ?_
     try simp only[Act.put,zA,zB,zC]
     refine zT 4 41 (.pointer (some ⟨g,k*3,none⟩)) rfl hHeld ?_
     try simp only[Act.put,zA,zB,zC]
     refine zT 5 42 (.int .i64 z0) rfl hHeld ?_
     try simp only[Act.put,zA,zB,zC]
     refine zT 6 43 (.pointer (some ⟨w.heap.size+1,0,none⟩)) rfl hHeld ?_
     try simp only[Act.put,zA,zB,zC]
     refine zT 7 44 (.int .i64 f0) rfl hHeld ?_
     try simp only[Act.put,zA,zB,zC]
     refine zT 8 45 (.bool false) rfl hHeld ?_
     try simp only[Act.put,zA,zB,zC]
     refine wpAnyH_done (by kernel_rfl) ?_ _
     have PVD:=zh (zu PV).drew
     go_wp2
     go_roundw
     case rel=>exact⟨k+1,m,c,a,L,true,rfl,by go_num,by omega,by omega,NX,PVD⟩
     case measure=>simp[intOf];omega
    ·have K6:wr.cell? ⟨w.heap.size,1,none⟩=some (.slice (some ⟨g,0,none⟩) x.ps.length x.c)∧wr.cell? ⟨g,k*3,none⟩=some (.int .i64 z0)∧wr.cell? ⟨w.heap.size+1,0,none⟩=some (.int .i64 f0):=⟨u1c,u10,u1f⟩
     go_wp2_with fail
     refine wp_region_held_drew (S:=(fun w'=>w'.cell? ⟨w.heap.size,1,none⟩=some (.slice (some ⟨g,0,none⟩) x.ps.length x.c)∧w'.cell? ⟨g,k*3,none⟩=some (.int .i64 z0)∧w'.cell? ⟨w.heap.size+1,0,none⟩=some (.int .i64 f0))) (by kernel_rfl) K6 (fun hHeld=>?_)
     refine zT 0 18 (.bool true) rfl hHeld ?_
     try simp only[Act.put,zA,zB,zC]
     refine zT 1 19 (.bool false) rfl hHeld ?_
     try simp only[Act.put,zA,zB,zC]
     refine zT 2 20 (.bool false) rfl hHeld ?_
     try simp only[Act.put,zA,zB,zC]
     refine zS 3 21 rfl hHeld ?_
     try simp only[Act.put,zA,zB,zC]
     refine zS 4 22 rfl hHeld ?_
     try simp only[Act.put,zA,zB,zC]
     refine zS 5 23 rfl hHeld ?_
     try simp only[Act.put,zA,zB,zC]
     refine zS 6 24 rfl hHeld ?_
     try simp only[Act.put,zA,zB,zC]
     refine zS 7 25 rfl hHeld ?_
     try simp only[Act.put,zA,zB,zC]
     refine zS 8 26 rfl hHeld ?_
     try simp only[Act.put,zA,zB,zC]
     refine zS 9 27 rfl hHeld ?_
     try simp only[Act.put,zA,zB,zC]
     refine zS 10 28 rfl hHeld ?_
     try simp only[Act.put,zA,zB,zC]
     refine zS 11 29 rfl hHeld ?_
     try simp only[Act.put,zA,zB,zC]
     refine zT 12 30 (.bool false) rfl hHeld ?_
     try simp only[Act.put,zA,zB,zC]
     refine wpAnyH_done (by kernel_rfl) ?_ _
     have PV:=zh (zu HPt).drew
     go_wp2_with fail
     generalize wr.drew=v1 at *
     have NX:=zh (show putN x.ps (f0,f1,f2) (k+1)=(L++[(z0,z1,z2)],true) from by rw[putN_succ (zu HP),zu EP];simp[PBV,qe,QF])
     have hq:(z0 !=f0)=true:=by simp[qe]
     clear qe
     have u2c:=(kcell (zu PV).gr 1 wl0 (by omega)).trans (zu HC)
     have u20:=(kcell (zu PV).gr (k*3) lg gn).trans (zu D0)
     have u21:=(kcell (zu PV).gr (k*3+1) lg gn).trans (zu D1)
     have u22:=(kcell (zu PV).gr (k*3+2) lg gn).trans (zu D2)
     have u2f:=(kcell (zu PV).gr 0 wl1 (by omega)).trans (zu F0)
     have u2g:=(kcell (zu PV).gr 1 wl1 (by omega)).trans (zu F1)
     have u2h:=(kcell (zu PV).gr 2 wl1 (by omega)).trans (zu F2)
     have u2s:=(zu PV).gr.size
     have K2:v1.cell? ⟨w.heap.size,1,none⟩=some (.slice (some ⟨g,0,none⟩) x.ps.length x.c)∧v1.cell? ⟨g,k*3,none⟩=some (.int .i64 z0)∧v1.cell? ⟨w.heap.size+1,0,none⟩=some (.int .i64 f0):=⟨u2c,u20,u2f⟩
     refine wp_region_held_drew (S:=(fun w'=>w'.cell? ⟨w.heap.size,1,none⟩=some (.slice (some ⟨g,0,none⟩) x.ps.length x.c)∧w'.cell? ⟨g,k*3,none⟩=some (.int .i64 z0)∧w'.cell? ⟨w.heap.size+1,0,none⟩=some (.int .i64 f0))) (by kernel_rfl) K2 (fun hHeld=>?_)
     refine zT 0 37 (.pointer (some ⟨w.heap.size,1,none⟩)) rfl hHeld ?_
     try simp only[Act.put,zA,zB,zC]
     refine zT 1 38 (.slice (some ⟨g,0,none⟩) x.ps.length x.c) rfl hHeld ?_
     try simp only[Act.put,zA,zB,zC]
     refine zT 2 39 (.int .i64 k) rfl hHeld ?_
     try simp only[Act.put,zA,zB,zC]
     refine zT 3 40 (.pointer (some ⟨g,k*3,none⟩)) rfl hHeld ?_
     try simp only[Act.put,zA,zB,zC]
     refine zT 4 41 (.pointer (some ⟨g,k*3,none⟩)) rfl hHeld ?_
     try simp only[Act.put,zA,zB,zC]
     refine zT 5 42 (.int .i64 z0) rfl hHeld ?_
     try simp only[Act.put,zA,zB,zC]
     refine zT 6 43 (.pointer (some ⟨w.heap.size+1,0,none⟩)) rfl hHeld ?_
     try simp only[Act.put,zA,zB,zC]
     refine zT 7 44 (.int .i64 f0) rfl hHeld ?_
     try simp only[Act.put,zA,zB,zC]
     refine zT 8 45 (.bool true) rfl hHeld ?_
     try simp only[Act.put,zA,zB,zC]
     refine wpAnyH_done (by kernel_rfl) ?_ _
     have PVD:=zh (zu PV).drew
     go_wp2_with fail
     generalize v1.drew=q2 at *
     have u3c:=(kcell (zu PVD).gr 1 wl0 (by omega)).trans (zu HC)
     have u30:=(kcell (zu PVD).gr (k*3) lg gn).trans (zu D0)
     have u31:=(kcell (zu PVD).gr (k*3+1) lg gn).trans (zu D1)
     have u32:=(kcell (zu PVD).gr (k*3+2) lg gn).trans (zu D2)
     have u3f:=(kcell (zu PVD).gr 0 wl1 (by omega)).trans (zu F0)
     have u3g:=(kcell (zu PVD).gr 1 wl1 (by omega)).trans (zu F1)
     have u3h:=(kcell (zu PVD).gr 2 wl1 (by omega)).trans (zu F2)
     have u3s:=(zu PVD).gr.size
     have K0:q2.cell? ⟨w.heap.size,1,none⟩=some (.slice (some ⟨g,0,none⟩) x.ps.length x.c)∧q2.cell? ⟨g,k*3,none⟩=some (.int .i64 z0)∧q2.cell? ⟨g,k*3+1,none⟩=some (.string z1)∧q2.cell? ⟨g,k*3+2,none⟩=some (.string z2):=⟨u3c,u30,u31,u32⟩
     have KB:(q2.drew.alloc (.cells #[.int .i64 z0,.string z1,.string z2] 81)).cell? ⟨w.heap.size,1,none⟩=some (.slice (some ⟨g,0,none⟩) x.ps.length x.c)∧(q2.drew.alloc (.cells #[.int .i64 z0,.string z1,.string z2] 81)).cell? ⟨g,k*3,none⟩=some (.int .i64 z0)∧(q2.drew.alloc (.cells #[.int .i64 z0,.string z1,.string z2] 81)).cell? ⟨g,k*3+1,none⟩=some (.string z1)∧(q2.drew.alloc (.cells #[.int .i64 z0,.string z1,.string z2] 81)).cell? ⟨g,k*3+2,none⟩=some (.string z2):=⟨((one_more q2.drew (.cells #[.int .i64 z0,.string z1,.string z2] 81)).cell (p:=⟨w.heap.size,1,none⟩) (show w.heap.size<q2.heap.size from by omega)).trans u3c,((one_more q2.drew (.cells #[.int .i64 z0,.string z1,.string z2] 81)).cell (p:=⟨g,k*3,none⟩) (show g<q2.heap.size from by omega)).trans u30,((one_more q2.drew (.cells #[.int .i64 z0,.string z1,.string z2] 81)).cell (p:=⟨g,k*3+1,none⟩) (show g<q2.heap.size from by omega)).trans u31,((one_more q2.drew (.cells #[.int .i64 z0,.string z1,.string z2] 81)).cell (p:=⟨g,k*3+2,none⟩) (show g<q2.heap.size from by omega)).trans u32⟩
     have bc:=(zu PVD).bx.c1
     have lo9:=(zu PVD).bx.lt.2
     have bcD:q2.drew.cell? ⟨w.heap.size+1+1+1,1,none⟩=some (.slice a (m) c):=bc
     have bcA:(q2.alloc (.cells #[.int .i64 z0,.string z1,.string z2] 81)).cell? ⟨w.heap.size+1+1+1,1,none⟩=some (.slice a (m) c):=((one_more q2.drew (.cells #[.int .i64 z0,.string z1,.string z2] 81)).cell (p:=⟨w.heap.size+1+1+1,1,none⟩) lo9).trans bc
     refine wp_region_held_drew (S:=(fun w'=>w'.cell? ⟨w.heap.size,1,none⟩=some (.slice (some ⟨g,0,none⟩) x.ps.length x.c)∧w'.cell? ⟨g,k*3,none⟩=some (.int .i64 z0)∧w'.cell? ⟨g,k*3+1,none⟩=some (.string z1)∧w'.cell? ⟨g,k*3+2,none⟩=some (.string z2))) (by kernel_rfl) K0 (fun hHeld=>?_)
     refine zT 0 46 (.pointer (some ⟨w.heap.size+1+1+1,1,none⟩)) rfl hHeld ?_
     try simp only[Act.put,zA,zB,zC]
     refine zT 2 48 (.pointer (some ⟨w.heap.size,1,none⟩)) rfl hHeld ?_
     try simp only[Act.put,zA,zB,zC]
     refine zT 3 49 (.slice (some ⟨g,0,none⟩) x.ps.length x.c) rfl hHeld ?_
     try simp only[Act.put,zA,zB,zC]
     refine zT 4 50 (.int .i64 k) rfl hHeld ?_
     try simp only[Act.put,zA,zB,zC]
     refine zT 5 51 (.pointer (some ⟨g,k*3,none⟩)) rfl hHeld ?_
     try simp only[Act.put,zA,zB,zC]
     refine zT 6 52 (.agg #[.int .i64 z0,.string z1,.string z2]) rfl hHeld ?_
     try simp only[Act.put,zA,zB,zC]
     refine wpAnyH_ready (rs:=[1,7]) (by kernel_rfl) (by simp) ?_
     refine AllReadyH.cons rfl (fun K hK=>?_) (AllReadyH.cons rfl (fun K hK=>?_) AllReadyH.nil)
     ·go_simp
      refine hK.out _ _ K0 (fun hHeld=>?_)
      clear hK K
      try simp only[Act.put,zA,zB,zC]
      refine zR 7 rfl (fun K hK=>?_)
      go_simp
      refine hK.out _ _ KB (fun hHeld=>?_)
      clear hK K
      try simp only[Act.put,zA,zB,zC]
      refine zR 8 rfl (fun K hK=>?_)
      refine step_app (q2.drew.alloc (.cells #[.int .i64 z0,.string z1,.string z2] 81)) (by rfl) _ _ 35 81 (by rfl) (.agg #[.int .i64 0,.string ByteArray.empty,.string ByteArray.empty]) 3 40 Tryz.underlying35 HelpF14.info2 rfl (by decide) (by decide) W.heap.size (.slice a (m) c) (m) (flatF (L)) q2.drew.heap.size [.int .i64 z0,.string z1,.string z2] (by rfl) (by rfl) (row_step (W:=q2.drew) (zu PVD).ow (one_more q2.drew (.cells #[.int .i64 z0,.string z1,.string z2] 81))) rfl (litm q2.drew _ _ _ (by rfl)) (by simp[Value.oneCell']) (by omega) (Nat.le_trans (show W.heap.size≤q2.drew.heap.size from u3s) (by simp)) ?_
      intro g9 c9 u9 o9 gr9
      have BL:=(zu PVD).off
      have PA:=(zu PVD).app (p:=(z0,z1,z2)) hO ((Below.refl _ _).drew.alloc (Nat.le_refl _) (.cells #[.int .i64 z0,.string z1,.string z2] 81)) gr9 o9
      have bx9:=PA.1
      have bc9:=bx9.c1
      have fr9:=bx9.free 1
      have P9:=zh PA.2
      have us9:=gr9.size
      simp at us9
      have KC:u9.cell? ⟨w.heap.size,1,none⟩=some (.slice (some ⟨g,0,none⟩) x.ps.length x.c)∧u9.cell? ⟨g,k*3,none⟩=some (.int .i64 z0)∧u9.cell? ⟨g,k*3+1,none⟩=some (.string z1)∧u9.cell? ⟨g,k*3+2,none⟩=some (.string z2):=⟨gr9.cell KB.1 (fun e=>by have:=BL _ e.symm;simp only at this;omega),gr9.cell KB.2.1 (fun e=>by have:=BL _ e.symm;simp only at this;omega),gr9.cell KB.2.2.1 (fun e=>by have:=BL _ e.symm;simp only at this;omega),gr9.cell KB.2.2.2 (fun e=>by have:=BL _ e.symm;simp only at this;omega)⟩
      have SB:=bc_set1 bx9 (.slice (some ⟨g9,0,none⟩) (m+1) c9)
      have KD:(u9.setCell ⟨w.heap.size+1+1+1,1,none⟩ (.slice (some ⟨g9,0,none⟩) (m+1) c9)).cell? ⟨w.heap.size,1,none⟩=some (.slice (some ⟨g,0,none⟩) x.ps.length x.c)∧(u9.setCell ⟨w.heap.size+1+1+1,1,none⟩ (.slice (some ⟨g9,0,none⟩) (m+1) c9)).cell? ⟨g,k*3,none⟩=some (.int .i64 z0)∧(u9.setCell ⟨w.heap.size+1+1+1,1,none⟩ (.slice (some ⟨g9,0,none⟩) (m+1) c9)).cell? ⟨g,k*3+1,none⟩=some (.string z1)∧(u9.setCell ⟨w.heap.size+1+1+1,1,none⟩ (.slice (some ⟨g9,0,none⟩) (m+1) c9)).cell? ⟨g,k*3+2,none⟩=some (.string z2):=⟨(kcell SB.2 (1) (show w.heap.size<u9.heap.size from by omega) (show w.heap.size≠w.heap.size+1+1+1 from by omega)).trans KC.1,(kcell SB.2 (k*3) (show g<u9.heap.size from by omega) (show g≠w.heap.size+1+1+1 from by omega)).trans KC.2.1,(kcell SB.2 (k*3+1) (show g<u9.heap.size from by omega) (show g≠w.heap.size+1+1+1 from by omega)).trans KC.2.2.1,(kcell SB.2 (k*3+2) (show g<u9.heap.size from by omega) (show g≠w.heap.size+1+1+1 from by omega)).trans KC.2.2.2⟩
      clear o9 gr9 PA SB bx9 BL
      refine hK.out _ _ KC (fun hHeld=>?_)
      clear hK K
      try simp only[Act.put,zA,zB,zC]
      refine zT 9 55 (.pointer (some ⟨w.heap.size+1+1+1,1,none⟩)) rfl hHeld ?_
      try simp only[Act.put,zA,zB,zC]
      refine zR 10 rfl (fun K hK=>?_)
      go_simp
      refine hK.out _ _ KD (fun hHeld=>?_)
      clear hK K
      try simp only[Act.put,zA,zB,zC]
      refine wpAnyH_done (by kernel_rfl) ?_ _
      clear K0 KB KC KD bc bcD bcA bc9 fr9
      go_wp2
      go_roundw
      case rel=>exact⟨k+1,m+1,c9,some ⟨g9,0,none⟩,L++[(z0,z1,z2)],true,rfl,by go_num,by omega,by omega,NX,P9⟩
      case measure=>simp[intOf];omega
     ·go_simp
      refine hK.out _ _ KB (fun hHeld=>?_)
      clear hK K
      try simp only[Act.put,zA,zB,zC]
      refine zR 1 rfl (fun K hK=>?_)
      go_simp
      refine hK.out _ _ KB (fun hHeld=>?_)
      clear hK K
      try simp only[Act.put,zA,zB,zC]
      refine zR 8 rfl (fun K hK=>?_)
      refine step_app (q2.drew.alloc (.cells #[.int .i64 z0,.string z1,.string z2] 81)) (by rfl) _ _ 35 81 (by rfl) (.agg #[.int .i64 0,.string ByteArray.empty,.string ByteArray.empty]) 3 40 Tryz.underlying35 HelpF14.info2 rfl (by decide) (by decide) W.heap.size (.slice a (m) c) (m) (flatF (L)) q2.drew.heap.size [.int .i64 z0,.string z1,.string z2] (by rfl) (by rfl) (row_step (W:=q2.drew) (zu PVD).ow (one_more q2.drew (.cells #[.int .i64 z0,.string z1,.string z2] 81))) rfl (litm q2.drew _ _ _ (by rfl)) (by simp[Value.oneCell']) (by omega) (Nat.le_trans (show W.heap.size≤q2.drew.heap.size from u3s) (by simp)) ?_
      intro g9 c9 u9 o9 gr9
      have BL:=(zu PVD).off
      have PA:=(zu PVD).app (p:=(z0,z1,z2)) hO ((Below.refl _ _).drew.alloc (Nat.le_refl _) (.cells #[.int .i64 z0,.string z1,.string z2] 81)) gr9 o9
      have bx9:=PA.1
      have bc9:=bx9.c1
      have fr9:=bx9.free 1
      have P9:=zh PA.2
      have us9:=gr9.size
      simp at us9
      have KC:u9.cell? ⟨w.heap.size,1,none⟩=some (.slice (some ⟨g,0,none⟩) x.ps.length x.c)∧u9.cell? ⟨g,k*3,none⟩=some (.int .i64 z0)∧u9.cell? ⟨g,k*3+1,none⟩=some (.string z1)∧u9.cell? ⟨g,k*3+2,none⟩=some (.string z2):=⟨gr9.cell KB.1 (fun e=>by have:=BL _ e.symm;simp only at this;omega),gr9.cell KB.2.1 (fun e=>by have:=BL _ e.symm;simp only at this;omega),gr9.cell KB.2.2.1 (fun e=>by have:=BL _ e.symm;simp only at this;omega),gr9.cell KB.2.2.2 (fun e=>by have:=BL _ e.symm;simp only at this;omega)⟩
      have SB:=bc_set1 bx9 (.slice (some ⟨g9,0,none⟩) (m+1) c9)
      have KD:(u9.setCell ⟨w.heap.size+1+1+1,1,none⟩ (.slice (some ⟨g9,0,none⟩) (m+1) c9)).cell? ⟨w.heap.size,1,none⟩=some (.slice (some ⟨g,0,none⟩) x.ps.length x.c)∧(u9.setCell ⟨w.heap.size+1+1+1,1,none⟩ (.slice (some ⟨g9,0,none⟩) (m+1) c9)).cell? ⟨g,k*3,none⟩=some (.int .i64 z0)∧(u9.setCell ⟨w.heap.size+1+1+1,1,none⟩ (.slice (some ⟨g9,0,none⟩) (m+1) c9)).cell? ⟨g,k*3+1,none⟩=some (.string z1)∧(u9.setCell ⟨w.heap.size+1+1+1,1,none⟩ (.slice (some ⟨g9,0,none⟩) (m+1) c9)).cell? ⟨g,k*3+2,none⟩=some (.string z2):=⟨(kcell SB.2 (1) (show w.heap.size<u9.heap.size from by omega) (show w.heap.size≠w.heap.size+1+1+1 from by omega)).trans KC.1,(kcell SB.2 (k*3) (show g<u9.heap.size from by omega) (show g≠w.heap.size+1+1+1 from by omega)).trans KC.2.1,(kcell SB.2 (k*3+1) (show g<u9.heap.size from by omega) (show g≠w.heap.size+1+1+1 from by omega)).trans KC.2.2.1,(kcell SB.2 (k*3+2) (show g<u9.heap.size from by omega) (show g≠w.heap.size+1+1+1 from by omega)).trans KC.2.2.2⟩
      clear o9 gr9 PA SB bx9 BL
      refine hK.out _ _ KC (fun hHeld=>?_)
      clear hK K
      try simp only[Act.put,zA,zB,zC]
      refine zT 9 55 (.pointer (some ⟨w.heap.size+1+1+1,1,none⟩)) rfl hHeld ?_
      try simp only[Act.put,zA,zB,zC]
      refine zR 10 rfl (fun K hK=>?_)
      go_simp
      refine hK.out _ _ KD (fun hHeld=>?_)
      clear hK K
      try simp only[Act.put,zA,zB,zC]
      refine wpAnyH_done (by kernel_rfl) ?_ _
      clear K0 KB KC KD bc bcD bcA bc9 fr9
      go_wp2
      go_roundw
      case rel=>exact⟨k+1,m+1,c9,some ⟨g9,0,none⟩,L++[(z0,z1,z2)],true,rfl,by go_num,by omega,by omega,NX,P9⟩
      case measure=>simp[intOf];omega
  ·have e:k=x.ps.length:=by omega
   subst e
   have fF:=(kcell (zu HPt).gr 0 wl1 (by omega)).trans (zu F0)
   have fG:=(kcell (zu HPt).gr 1 wl1 (by omega)).trans (zu F1)
   have fH:=(kcell (zu HPt).gr 2 wl1 (by omega)).trans (zu F2)
   have wc:=(kcell (zu HPt).gr 1 wl0 (by omega)).trans (zu HWD).c1
   cases pb
   ·have E:=zh (show putF x.ps (f0,f1,f2)=L++[(f0,f1,f2)] from by rw[zu PF,zu HP];simp)
    clear PF HP
    have bo:=(zu HPt).bx.c1
    have lo:=(zu HPt).bx.lt.2
    have bob:(wr.alloc (.cells #[.int .i64 f0,.string f1,.string f2] 81)).cell? ⟨w.heap.size+1+1+1,1,none⟩=some (.slice a (m) c):=((one_more wr (.cells #[.int .i64 f0,.string f1,.string f2] 81)).cell (p:=⟨w.heap.size+1+1+1,1,none⟩) lo).trans bo
    have vs:=(zu HPt).gr.size
    go_wp2_with (first|(at_builtin;refine wp_app _ rfl _ _ rfl W.heap.size (.slice a (m) c) (m) (flatF (L)) wr.heap.size [.int .i64 f0,.string f1,.string f2] rfl rfl (row_step (zu HPt).ow (one_more wr (.cells #[.int .i64 f0,.string f1,.string f2] 81))) rfl (litm wr _ _ _ (by rfl)) (by simp[Value.oneCell']) (by omega) (Nat.le_trans vs (by simp)) ?_)|go_in)
    intro g8 c8 u8 o8 gr8
    (try rw[←s3] at o8)
    have PA:=(zu HPt).app (p:=(f0,f1,f2)) hO (one_more wr (.cells #[.int .i64 f0,.string f1,.string f2] 81)) gr8 o8
    have bx8:=PA.1
    have b80:=bx8.c1
    have b81:=bx8.free 1
    have P8:=zh PA.2
    clear o8 gr8 PA bo bob bx8
    generalize hL:L++[(f0,f1,f2)]=L9 at *
    clear hL
    have B0:=(zu P8).bx.c0
    have B1:=(zu P8).bx.c1
    have Rk:=zh ((zu HRB).kept (zu P8).gr (by simp))
    have e0:=(zu Rk).free 0
    have e1:=(zu Rk).free 1
    have r0:=(zu Rk).c0
    have r1:=(zu Rk).c1
    have lm:L9.length=(m+1):=by
     have:=(zu P8).ow.1
     rw[flatF_len] at this
     omega
    have LM:=zh lm
    have OR:=zh (row_base (zu P8).ow (show w.heap.size≤W.heap.size from by omega))
    have LB:=zh (show ∀j,(Value.slice (some ⟨g8,0,none⟩) (m+1) c8).ownBlock=some j→w.heap.size+4≤j from fun j hj=>by have:=(zu P8).off j hj;omega)
    have t0:=(zu Rk).set0 (.int .i64 x.room)
    have t1:=bc_set1 t0.1 (.slice (some ⟨g8,0,none⟩) (m+1) c8)
    have ST:=zh (grow_grow t0.2 t1.2)
    have BB:=zh (grow_low (zu HWD).b (zu P8).gr (by omega))
    have us:=(zu P8).gr.size
    clear lm t0 t1
    go_wp2
    refine bodyPost_ret (v:= .agg #[.int .i64 x.room,.slice (some ⟨g8,0,none⟩) (m+1) c8]) (by simp[results,Tryz.results98,go_sem,r0,r1]) rfl ⟨⟨x.room,(some ⟨g8,0,none⟩),c8,L9⟩,rfl,(zu E).symm,by simp[zu LM],?_,?_⟩
    ·unfold OwD
     simp only[zu LM]
     exact World.ownsRow.kept (zu OR) (zu ST) (by
      cases hb:(Value.slice (some ⟨g8,0,none⟩) (m+1) c8).ownBlock with
      |none=>exact .inl rfl
      |some g=>exact .inr (fun e=>by have:=(zu LB) g hb;injection e with e;omega))
    ·exact grow_low (zu BB) (zu ST) (by omega)
   ·have E:=zh (show putF x.ps (f0,f1,f2)=L from by rw[zu PF,zu HP];simp)
    clear PF HP
    have B0:=(zu HPt).bx.c0
    have B1:=(zu HPt).bx.c1
    have Rk:=zh ((zu HRB).kept (zu HPt).gr (by simp))
    have e0:=(zu Rk).free 0
    have e1:=(zu Rk).free 1
    have r0:=(zu Rk).c0
    have r1:=(zu Rk).c1
    have lm:L.length=m:=by
     have:=(zu HPt).ow.1
     rw[flatF_len] at this
     omega
    have LM:=zh lm
    have OR:=zh (row_base (zu HPt).ow (show w.heap.size≤W.heap.size from by omega))
    have LB:=zh (show ∀j,(Value.slice a m c).ownBlock=some j→w.heap.size+4≤j from fun j hj=>by have:=(zu HPt).off j hj;omega)
    have t0:=(zu Rk).set0 (.int .i64 x.room)
    have t1:=bc_set1 t0.1 (.slice a m c)
    have ST:=zh (grow_grow t0.2 t1.2)
    have BB:=zh (grow_low (zu HWD).b (zu HPt).gr (by omega))
    have us:=(zu HPt).gr.size
    clear lm t0 t1
    go_wp2
    refine bodyPost_ret (v:= .agg #[.int .i64 x.room,.slice a m c]) (by simp[results,Tryz.results98,go_sem,r0,r1]) rfl ⟨⟨x.room,a,c,L⟩,rfl,(zu E).symm,by simp[zu LM],?_,?_⟩
    ·unfold OwD
     simp only[zu LM]
     exact World.ownsRow.kept (zu OR) (zu ST) (by
      cases hb:(Value.slice a m c).ownBlock with
      |none=>exact .inl rfl
      |some g=>exact .inr (fun e=>by have:=(zu LB) g hb;injection e with e;omega))
    ·exact grow_low (zu BB) (zu ST) (by omega)
end SPut14
namespace ICp14
open Fil14 OpensF14 DiskH14 DkH14 SDk14 SOk14 SRd14 App14 SLess14 SCopy14 SRef14 SCom14
theorem run_copyF(w:World)(g dCap:Nat)(sp:Option Addr)(sCap:Nat)(ps:List TF)(cur:Array Value)(t ty:TypeId)(hg:w.heap[g]?=some (.cells cur t (0,0)))(hc:cur.size=ps.length*3)(hs:ps.length=0∨∃vb,sp=some ⟨vb,0,none⟩∧AtF w vb ps):
  (Builtin.copy_ #[35,35] ty #[.slice (some ⟨g,0,none⟩) ps.length dCap,.slice sp ps.length sCap]).run Tryz.prog w= .ok (.int .i64 ps.length) (w.setRow g (flatF ps).toArray):=by
 obtain⟨i0,hi,hz0,hz1,hz2⟩:=info_parts HelpF14.info2
 rcases hs with h0|⟨vb,rfl,ha⟩
 ·have e:ps=[]:=List.length_eq_zero_iff.1 h0
  subst e
  have ec:cur= #[]:=Array.eq_empty_of_size_eq_zero (by simpa using hc)
  subst ec
  rw[show(flatF []).toArray= #[] from rfl,setRow_self w g #[] t (0,0) hg]
  cases sp<;>simp[Builtin.copy_,run_underlying Tryz.underlying35,Builtin.lenOf,Builtin.firstCells,sizeOf,typeInfo,hi,hz1,storeCells,loadCells,loadCellsFrom,goInt]
 ·have hl:=run_loadCells_list (P:=Tryz.prog) w ⟨vb,0,none⟩ (flatF ps) ha.cells
  have hst:=run_storeCells_at Tryz.prog g 0 t (flatF ps) 0 cur w hg (by rw[flatF_len,hc];omega) (fun u hu=>flatF_one u ps hu)
  rw[flatF_len] at hl
  have hd:cur.toList.drop (ps.length*3)=[]:=by rw[List.drop_eq_nil_iff];simp[hc]
  simp only[flatF_len,Nat.zero_add,Nat.add_zero,List.take_zero,List.nil_append,hd,List.append_nil] at hst
  simp[Builtin.copy_,run_underlying Tryz.underlying35,Builtin.lenOf,Builtin.firstCells,sizeOf,typeInfo,hi,hz1,hl,hst,goInt]
theorem wp_copyF(w:World){ops:Array Oper}{rest:List Oper}{o:Oper}{a:Act}{Q:Exit→Act→World→Prop}(hgd:o.guard=none)(d s:Operand)
  (ho:o.op= .call {callee:= .builtin .copy,args:= #[d,s],argTypes:= #[35,35]})(base g:Nat)(ps:List TF)(old:List Value)(sp:Option Addr)(sCap:Nat)(hd:a.eval d= .slice (some ⟨g,0,none⟩) ps.length ps.length)(hs:a.eval s= .slice sp ps.length sCap)
  (hown:w.ownsRow base 81 3 (.slice (some ⟨g,0,none⟩) ps.length ps.length) ps.length old)(hq:ps.length=0∨∃vb,sp=some ⟨vb,0,none⟩∧AtF w vb ps)
  (h:∀w',w'.ownsRow base 81 3 (.slice (some ⟨g,0,none⟩) ps.length ps.length) ps.length (flatF ps)→w.grownBy w' (some g)→wpList Tryz.prog ops Q rest (a.put o.dst (.int .i64 ps.length)) w'):wpList Tryz.prog ops Q (o::rest) a w:=by
 rcases hown.2 with⟨h1,_⟩|⟨g',c,cur,h1,h2,h3,h4,h5,h6,h7⟩
 ·simp at h1
 obtain⟨rfl,rfl⟩:g=g'∧ps.length=c:=by simpa using h1
 refine wpList_plain hgd fun K hK=>?_
 have hrun:=run_copyF w g ps.length sp sCap ps cur 81 o.type h3 h6 hq
 unfold Oper.wp
 simp[execOp,ho,resolve,invoke,builtin,hd,hs,hrun,Result.andThen]
 refine hK _ _ (h _ ⟨flatF_len ps,.inr ⟨g,ps.length,(flatF ps).toArray,rfl,h2,setRow_heap w g cur _ _ _ h3,Nat.le_refl _,h5,by simp[flatF_len],?_⟩⟩ ⟨rfl,rfl,rfl,by simp[World.setRow],fun k hk hne=>setRow_other w g k _ (fun e=>hne (by rw[e]))⟩)
 simp[←flatF_len]
theorem mid{w w1:World}{x:Dx}{vs:List Value}(h:Wd w ((w.alloc (.cells #[.int .i64 x.room,.slice x.a x.ps.length x.c] 37)).alloc (.cells #[.int .i64 0,.slice none 0 0] 37)) x∧Bc ((w.alloc (.cells #[.int .i64 x.room,.slice x.a x.ps.length x.c] 37)).alloc (.cells #[.int .i64 0,.slice none 0 0] 37)) w.heap.size (w.heap.size+1) (.int .i64 0) (.slice none 0 0))
  (ho:w1.ownsRow (w.heap.size+2) 81 3 (.slice (some ⟨((w.alloc (.cells #[.int .i64 x.room,.slice x.a x.ps.length x.c] 37)).alloc (.cells #[.int .i64 0,.slice none 0 0] 37)).heap.size,0,none⟩) x.ps.length x.ps.length) x.ps.length vs)(hg:((w.alloc (.cells #[.int .i64 x.room,.slice x.a x.ps.length x.c] 37)).alloc (.cells #[.int .i64 0,.slice none 0 0] 37)).grownBy w1 none):
  Wd w w1 x∧Bc w1 w.heap.size (w.heap.size+1) (.int .i64 0) (.slice none 0 0)∧w1.ownsRow (w.heap.size+2) 81 3 (.slice (some ⟨w.heap.size+2,0,none⟩) x.ps.length x.ps.length) x.ps.length vs∧(x.ps.length=0∨∃vb,x.a=some ⟨vb,0,none⟩∧AtF w1 vb x.ps):=by
 have d:=h.1.step (grownBy_below hg)
 refine⟨d,h.2.kept hg (by simp),?_,?_⟩
 ·have e:((w.alloc (.cells #[.int .i64 x.room,.slice x.a x.ps.length x.c] 37)).alloc (.cells #[.int .i64 0,.slice none 0 0] 37)).heap.size=w.heap.size+2:=by simp
  rw[e] at ho
  exact ho
 ·by_cases q:x.ps.length=0
  ·exact .inl q
  ·obtain⟨g,e⟩:=d.r.e q
   exact .inr ⟨g,e,(d.r.r g e).2⟩
theorem iCopied(w:World)(x:Dx)(hr:RdD w x):
  Calls Tryz.prog 116 #[.agg #[.int .i64 x.room,.slice x.a x.ps.length x.c]] w fun e w'=>∃y:Dx,y.room=x.room∧y.ps=x.ps∧e= .returned (.agg #[.int .i64 y.room,.slice y.a y.ps.length y.c])∧OwD w' w.heap.size y∧Below w.heap.size w w':=by
 obtain⟨i0,hi,hz0,hz1,hz2⟩:=info_parts HelpF14.info2
 have G0:=zh (begunD hr)
 have h20:=hr.n
 clear hr
 have SZ:=zh (show w.heap.size+2≤((w.alloc (.cells #[.int .i64 x.room,.slice x.a x.ps.length x.c] 37)).alloc (.cells #[.int .i64 0,.slice none 0 0] 37)).heap.size by simp)
 go_enter Tryz.func116,Tryz.ntmps116
 go_wp2_with (first|(at_make;refine wpList_make_full _ rfl _ _ 35 rfl (w.heap.size+2) 81 i0 (.agg #[.int .i64 0,.string ByteArray.empty,.string ByteArray.empty]) 3 Tryz.underlying35 hi hz0 hz1 .i64 .i64 _ _ x.ps.length rfl rfl rfl rfl (by rw[hz2];omega) (by unfold maxLen;omega) (zu SZ) ?_;intro w1 hown hgrow;have HM:=zh (mid (zu G0) hown hgrow);have c0:=(zu HM).1.c0;have c1:=(zu HM).1.c1;clear hown hgrow G0 SZ)|(refine wp_copyF _ rfl _ _ rfl (w.heap.size+2) (w.heap.size+2) x.ps _ x.a x.c rfl rfl (zu HM).2.2.1 (zu HM).2.2.2 ?_;intro w2 o2 g2;have O2:=zh o2;have K0:=(kcell g2 0 (zu HM).1.lt (by omega)).trans c0;have R2:=zh ((zu HM).2.1.kept g2 (by simp));have B2:=zh (grow_low (zu HM).1.b g2 ⟨by omega,(zu HM).1.b.size⟩);have r0:=(zu R2).c0;have r1:=(zu R2).c1;have f0:=(zu R2).free 0;have f1:=(zu R2).free 1;clear o2 g2 c0 c1 HM)|go_in)
 have E:=endedD (y:=⟨x.room,some ⟨w.heap.size+2,0,none⟩,x.ps.length,x.ps⟩) (zu B2) (zu R2) (zu O2) (by omega)
 refine bodyPost_ret (v:= .agg #[.int .i64 x.room,.slice (some ⟨w.heap.size+2,0,none⟩) x.ps.length x.ps.length]) (by simp[results,Tryz.results116,go_sem,r0,r1]) rfl ⟨⟨x.room,some ⟨w.heap.size+2,0,none⟩,x.ps.length,x.ps⟩,rfl,rfl,rfl,E.1,E.2⟩
end ICp14
end Go.Proofs.YtppkkmaoaiopaaaGreat
