/- Texts of one proof. -/
import Derived.Test.YtlbgfdpcgpijhaaGreatQA31
import Derived.Maps.AppendAt
open Go.ChangeShapes Go.WideShapes Go.ChangeAt Go.RowKit
set_option linter.unusedVariables false
set_option linter.unusedSimpArgs false
set_option maxRecDepth 100000
set_option maxHeartbeats 32000000
namespace Go.Proofs.YtlbgfdpcgpijhaaGreat
namespace App14
open Fil14 OpensF14 DiskH14 DkH14 SDk14 SOk14
theorem kcell{W W':World}{G g:Nat}(k:W.grownBy W' (some G))(o:Nat)(hg:g<W.heap.size)(hG:g≠G):W'.cell? ⟨g,o,none⟩=W.cell? ⟨g,o,none⟩:=
 World.cell?_of_block (w:=W) (k.block g hg (by simpa using hG))
theorem grow_grow{w w1 w2:World}{row:Option Nat}(h:w.grownBy w1 row)(k:w1.grownBy w2 row):w.grownBy w2 row:=
 ⟨k.os.trans h.os,k.tape.trans h.tape,k.output.trans h.output,Nat.le_trans h.size k.size,fun i hi hr=>(k.block i (Nat.lt_of_lt_of_le hi h.size) hr).trans (h.block i hi hr)⟩
theorem row_kept{W W':World}{base G:Nat}{e:TypeId}{m:Nat}{v:Value}{n:Nat}{vs:List Value}(h:W.ownsRow base e m v n vs)(k:W.grownBy W' (some G))(hG:G<base):W'.ownsRow base e m v n vs:=
 World.ownsRow.kept h k (by
  cases hb:v.ownBlock with
  |none=>exact .inl rfl
  |some g=>exact .inr (fun e=>by have:=(World.ownsRow.lt h g hb).1;injection e with e;omega))
theorem step_app(u:World){ops:Array Oper}{o:Oper}{a:Act}{K:Act→World→Prop}{Q:Exit→Act→World→Prop}{E:Prop}(hgd:o.guard=none)(s x:Operand)(t e:TypeId)
  (ho:o.op= .call {callee:= .builtin .append,args:= #[s,x],argTypes:= #[t,t]})(z:Value)(size bytes:Nat)(ht:Tryz.prog.underlying t=some (.slice e))(hi:(Tryz.prog.info? e).map (fun i=>(i.zero,i.size,i.bytes))=some (some z,size,bytes))(hzs:z.cells.size=size)(hsz:0<size)(hby:bytes≤64)
  (base:Nat)(v:Value)(n:Nat)(xs:List Value)(vb:Nat)(news:List Value)(hs:a.eval s=v)(hx:a.eval x= .slice (some ⟨vb,0,none⟩) 1 1)(hown:u.ownsRow base e size v n xs)(hl:news.length=size)(hc:∀j w,news[j]?=some w→u.cell? ⟨vb,j,none⟩=some w)(h1:∀w∈news,w.oneCell'=true)(hn:n≤1048576)(hb:base≤u.heap.size)
  (h:∀g' c' w',w'.ownsRow base e size (.slice (some ⟨g',0,none⟩) (n+1) c') (n+1) (xs++news)→u.grownBy w' v.ownBlock→K (a.put o.dst (.slice (some ⟨g',0,none⟩) (n+1) c')) w'):if Region.wanted o (yielded ops a.tmps)=true then Oper.wp Tryz.prog o a u K Q else E:=by
 obtain⟨i0,hi,hz0,hz1,hz2⟩:=info_parts hi
 have hw:Region.wanted o (yielded ops a.tmps)=true:=by simp[Region.wanted,hgd]
 rw[if_pos hw]
 obtain⟨v',w',hr,own',gr',nil',loc'⟩:=run_append_own_at (P:=Tryz.prog) u base t o.type e i0 z size bytes ht hi hz0 hz1 hz2 hzs hsz v n xs hown ⟨vb,0,none⟩ 1 1 news (by omega) (fun j w hj=>by rw[Addr.add_lit,Nat.zero_add];exact hc j w hj) h1 (by unfold maxLen;omega) (by have:(n+1)*bytes≤1048577*64:=Nat.mul_le_mul (by omega) hby;omega) hb
 unfold Oper.wp execOp
 simp only[ho,resolve,invoke,builtin,Sem.run_bind,Sem.run_pure,Result.andThen_ok,List.map_toArray,List.map_cons,List.map_nil,hs,hx,hr]
 rcases own'.2 with⟨e1,_⟩|⟨g',c',cur,rfl,_⟩
 ·rw[e1] at nil';simp at nil'
 ·exact h g' c' w' own' gr'
theorem row_base{W:World}{base base':Nat}{e:TypeId}{m:Nat}{v:Value}{n:Nat}{vs:List Value}(h:W.ownsRow base e m v n vs)(hb:base'≤base):W.ownsRow base' e m v n vs:=
 ⟨h.1,by
  rcases h.2 with h|⟨g,c,cur,h1,h2,h3⟩
  ·exact .inl h
  ·exact .inr ⟨g,c,cur,h1,Nat.le_trans hb h2,h3⟩⟩
theorem litm(u:World)(news:List Value)(e:TypeId)(arr:Array Value)(h:arr=news.toArray):∀j w,news[j]?=some w→(u.alloc (.cells arr e)).cell? ⟨u.heap.size,j,none⟩=some w:=by
 subst h
 intro j w hj
 simpa using hj
theorem flat_1(ps:List TF)(p:TF):flatF (ps++[p])=flatF ps++[.int .i64 p.1,.string p.2.1,.string p.2.2]:=by simp[flatF]
end App14
namespace SLess14
open Fil14 OpensF14 DiskH14 DkH14 SDk14 SOk14 App14
open DkH14 (row_step)
theorem grow_low{B:Nat}{w W W':World}{G:Nat}(h:Below B w W)(k:W.grownBy W' (some G))(hB:B≤G∧B≤W.heap.size):Below B w W':=
 ⟨k.os.trans h.os,k.tape.trans h.tape,k.output.trans h.output,Nat.le_trans h.size k.size,fun i hi=>(k.block i (by omega) (by simp;omega)).trans (h.block i hi)⟩
theorem bc_set1{w:World}{base g:Nat}{v0 v1:Value}(h:Bc w base g v0 v1)(u:Value):Bc (w.setCell ⟨g,1,none⟩ u) base g v0 u∧w.grownBy (w.setCell ⟨g,1,none⟩ u) (some g):=World.ownsRow.stored h 1 u
end SLess14
namespace SCopy14
open Fil14 OpensF14 DiskH14 DkH14 SDk14 SOk14 App14 SLess14
open DkH14 (row_step)
theorem step_many(u:World){ops:Array Oper}{o:Oper}{a:Act}{K:Act→World→Prop}{Q:Exit→Act→World→Prop}{E:Prop}(hgd:o.guard=none)(s x:Operand)
  (ho:o.op= .call {callee:= .builtin .append,args:= #[s,x],argTypes:= #[36,36]})(base g n cap:Nat)(ps qs:List TF)(xa:Option Addr)(xc:Nat)(hs:a.eval s= .slice (some ⟨g,0,none⟩) n cap)(hx:a.eval x= .slice xa qs.length xc)(hown:OwnF 64 u base g n cap ps)(hq:qs.length=0∨∃vb,xa=some ⟨vb,0,none⟩∧AtF u vb qs)(hn:n≤1048576)(hm:qs.length≤1048576)(hb:base≤u.heap.size)
  (h:∀g' c' w',OwnF 64 w' base g' (n+qs.length) c' (ps++qs)→u.grownBy w' (some g)→(g'=g∨g'=u.heap.size)→K (a.put o.dst (.slice (some ⟨g',0,none⟩) (n+qs.length) c')) w'):if Region.wanted o (yielded ops a.tmps)=true then Oper.wp Tryz.prog o a u K Q else E:=by
 obtain⟨i0,hi,hz0,hz1,hz2⟩:=info_parts HelpF14.info2
 have hw:Region.wanted o (yielded ops a.tmps)=true:=by simp[Region.wanted,hgd]
 rw[if_pos hw]
 rcases hq with hq|⟨vb,rfl,hq⟩
 ·have e:qs=[]:=List.length_eq_zero_iff.1 hq
  subst e
  obtain⟨hle,hcap⟩:n≤cap∧True:=by
   rcases hown.2 with⟨h1,_⟩|⟨g',c,cur,h1,h2,h3,h4,_⟩
   ·simp at h1
   ·obtain⟨_,e2⟩:g=g'∧cap=c:=by simpa using h1
    exact⟨by omega,trivial⟩
  have hr:(Builtin.append_ #[36,36] o.type #[.slice (some ⟨g,0,none⟩) n cap,.slice xa 0 xc]).run Tryz.prog u= .ok (.slice (some ⟨g,0,none⟩) n cap) u:=by
   cases xa<;>simp[Builtin.append_,run_underlying Tryz.underlying36,sizeOf,typeInfo,hi,hle,storeCells,go_sem]
  unfold Oper.wp execOp
  simp only[List.length_nil] at hx
  simp only[ho,resolve,invoke,builtin,Sem.run_bind,Sem.run_pure,Result.andThen_ok,List.map_toArray,List.map_cons,List.map_nil,hs,hx,hr]
  have:=h g cap u (by simpa using hown) (World.grownBy.refl _ _) (.inl rfl)
  simp only[List.length_nil,Nat.add_zero] at this
  exact this
 ·obtain⟨v',w',hr,own',gr',nil',loc'⟩:=run_append_own_at (P:=Tryz.prog) u base 36 o.type 64 i0 (.agg #[.int .i64 0,.string ByteArray.empty,.string ByteArray.empty]) 3 40 Tryz.underlying36 hi hz0 hz1 hz2 rfl (by decide) (.slice (some ⟨g,0,none⟩) n cap) n (flatF ps) hown ⟨vb,0,none⟩ qs.length xc (flatF qs) (flatF_len qs) hq.cells (fun u hu=>flatF_one u qs hu) (by unfold maxLen;omega) (by omega) hb
  unfold Oper.wp execOp
  simp only[ho,resolve,invoke,builtin,Sem.run_bind,Sem.run_pure,Result.andThen_ok,List.map_toArray,List.map_cons,List.map_nil,hs,hx,hr]
  rw[←flatF_append] at own'
  rcases own'.2 with⟨e1,_⟩|⟨g',c',cur,rfl,_⟩
  ·rw[e1] at nil';simp at nil'
  ·exact h g' c' w' own' gr' (loc'.elim (fun q=> .inl (Option.some.inj (show some g'=some g from q))) (fun q=> .inr (Option.some.inj (show some g'=some u.heap.size from q))))
theorem sCopy(w:World)(x:Dx)(hr:RdD w x):
  Calls Tryz.prog 114 #[.agg #[.int .i64 x.room,.slice x.a x.ps.length x.c]] w fun e w'=>∃y:Dx,y.room=x.room∧y.ps=x.ps∧e= .returned (.agg #[.int .i64 y.room,.slice y.a y.ps.length y.c])∧OwD w' w.heap.size y∧Below w.heap.size w w':=by
 have F:∀W1,W1=w.alloc (.cells #[.int .i64 x.room,.slice x.a x.ps.length x.c] 38)→∀W2,W2=W1.alloc (.cells #[.int .i64 0,.slice none 0 0] 38)→
   Wd w W2 x∧Bc W2 w.heap.size (w.heap.size+1) (.int .i64 0) (.slice none 0 0)∧W2.heap.size=w.heap.size+2:=by
  intro W1 h1 W2 h2
  have s1:W1.heap.size=w.heap.size+1:=by rw[h1];simp
  have s2:W2.heap.size=w.heap.size+2:=by rw[h2];simp[s1]
  have d1:Wd w W1 x:=by rw[h1];exact Wd.made hr _
  have b2:Below W1.heap.size W1 W2:=by rw[h2];exact one_more _ _
  have R1:Bc W2 w.heap.size (w.heap.size+1) (.int .i64 0) (.slice none 0 0):=by rw[h2];exact Bc.made _ _ (by omega) s1.symm
  exact⟨d1.step b2,R1,s2⟩
 have G0:=zh (F _ rfl _ rfl)
 have h20:=hr.n
 clear F hr
 go_enter Tryz.func114,Tryz.ntmps114
 go_wp2_with fail
 generalize (w.alloc (.cells #[.int .i64 x.room,.slice x.a x.ps.length x.c] 38)).alloc (.cells #[.int .i64 0,.slice none 0 0] 38)=W at *
 obtain⟨WD,RB,s3⟩:=zu G0
 have K0:=And.intro WD.c0 WD.c1
 have bL:=one_more W.drew (.cells #[] 64)
 have WL:=WD.drew.step bL
 have KB:=And.intro WL.c0 WL.c1
 have RQ:=zh (show x.ps.length=0∨∃vb,x.a=some ⟨vb,0,none⟩∧AtF (W.drew.alloc (.cells #[] 64)) vb x.ps from by
  by_cases q:x.ps.length=0
  ·exact .inl q
  ·obtain⟨g,e⟩:=WL.r.e q
   exact .inr ⟨g,e,(WL.r.r g e).2⟩)
 have LF:=zh (show OwnF 64 (W.drew.alloc (.cells #[] 64)) w.heap.size (w.heap.size+2) 0 0 [] from by
  have h:=litF0 64 W.drew w.heap.size (show w.heap.size≤W.heap.size from by omega)
  rw[show W.drew.heap.size=w.heap.size+2 from s3] at h
  exact h)
 have HWD:=zh WD
 have HRB:=zh RB
 clear G0 WD RB bL WL
 refine wp_region_held_drew (S:=(fun w'=>w'.cell? ⟨w.heap.size,0,none⟩=some (.int .i64 x.room)∧w'.cell? ⟨w.heap.size,1,none⟩=some (.slice x.a x.ps.length x.c))) (by kernel_rfl) K0 (fun hHeld=>?_)
 refine zT 0 (.pointer (some ⟨w.heap.size,0,none⟩)) rfl hHeld ?_
 refine zT 1 (.int .i64 x.room) rfl hHeld ?_
 refine zT 3 (.pointer (some ⟨w.heap.size,1,none⟩)) rfl hHeld ?_
 refine zT 4 (.slice x.a x.ps.length x.c) rfl hHeld ?_
 try simp only[Act.put,zA,zB,zC]
 refine zR 2 rfl (fun K hK=>?_)
 go_simp
 refine hK.out _ _ KB (fun hHeld=>?_)
 clear hK K
 try simp only[Act.put,zA,zB,zC]
 refine zR 5 rfl (fun K hK=>?_)
 refine step_many ((W.drew).alloc (.cells #[] 64)) (by rfl) _ _ (by rfl) w.heap.size (w.heap.size+2) 0 0 [] x.ps x.a x.c (by rfl) (by rfl) (zu LF) (zu RQ) (by omega) h20 (Nat.le_trans (show w.heap.size≤W.drew.heap.size from by show w.heap.size≤W.heap.size;omega) (by simp)) ?_
 intro g9 c9 u9 o9 gr9 LOC
 simp at LOC
 have O9:=zh o9
 have G9:=zh gr9
 have K9:u9.cell? ⟨w.heap.size,0,none⟩=some (.int .i64 x.room)∧u9.cell? ⟨w.heap.size,1,none⟩=some (.slice x.a x.ps.length x.c):=⟨gr9.cell KB.1 (by simp),gr9.cell KB.2 (by simp)⟩
 have R9:=zh ((((show Bc W.drew w.heap.size (w.heap.size+1) (.int .i64 0) (.slice none 0 0) from zu HRB).below (one_more W.drew (.cells #[] 64)) (show w.heap.size+1<W.heap.size from by omega))).kept gr9 (by simp))
 have f0:=(zu R9).free 0
 have f1:=(zu R9).free 1
 have r0:=(zu R9).c0
 have r1:=(zu R9).c1
 have NB:=zh (show g9≠w.heap.size+1 from fun e=>by
  have h:=World.ownsRow.lt o9 g9 rfl
  rcases LOC with q|q<;>omega)
 have s0:=(zu R9).set0 (.int .i64 x.room)
 have s1:=bc_set1 s0.1 (.slice (some ⟨g9,0,none⟩) x.ps.length c9)
 have ST:=zh (grow_grow s0.2 s1.2)
 have gs9:=(zu G9).size
 simp at gs9
 have KE:((u9.setCell ⟨w.heap.size+1,0,none⟩ (.int .i64 x.room)).setCell ⟨w.heap.size+1,1,none⟩ (.slice (some ⟨g9,0,none⟩) x.ps.length c9)).cell? ⟨w.heap.size,0,none⟩=some (.int .i64 x.room)∧((u9.setCell ⟨w.heap.size+1,0,none⟩ (.int .i64 x.room)).setCell ⟨w.heap.size+1,1,none⟩ (.slice (some ⟨g9,0,none⟩) x.ps.length c9)).cell? ⟨w.heap.size,1,none⟩=some (.slice x.a x.ps.length x.c):=⟨(kcell (zu ST) 0 (show w.heap.size<u9.heap.size from by omega) (by omega)).trans K9.1,(kcell (zu ST) 1 (show w.heap.size<u9.heap.size from by omega) (by omega)).trans K9.2⟩
 clear o9 gr9 s0 s1
 refine hK.out _ _ K9 (fun hHeld=>?_)
 clear hK K
 refine zT 6 (.agg #[.int .i64 x.room,.slice (some ⟨g9,0,none⟩) (0+x.ps.length) c9]) rfl hHeld ?_
 try simp only[Act.put,zA,zB,zC]
 refine zR 7 rfl (fun K hK=>?_)
 go_simp
 refine hK.out _ _ KE (fun hHeld=>?_)
 clear hK K
 try simp only[Act.put,zA,zB,zC]
 refine wpAnyH_done (by kernel_rfl) ?_ _
 clear KE K9 KB K0
 go_wp2
 refine bodyPost_ret (v:= .agg #[.int .i64 x.room,.slice (some ⟨g9,0,none⟩) x.ps.length c9]) (by simp[results,Tryz.results114,go_sem,r0,r1]) rfl ⟨⟨x.room,some ⟨g9,0,none⟩,c9,x.ps⟩,rfl,rfl,rfl,?_,?_⟩
 ·unfold OwD
  exact World.ownsRow.kept (by have h:=zu O9;simp only[List.nil_append,Nat.zero_add] at h;exact h) (zu ST) (.inr (fun e=>(zu NB) (Option.some.inj (show some g9=some (w.heap.size+1) from e))))
 ·exact grow_low (grow_low ((zu HWD).b.drew.alloc (show w.heap.size≤W.heap.size from by omega) _) (zu G9) ⟨by omega,by simp;omega⟩) (zu ST) ⟨by omega,by have:=(zu G9).size;simp at this;omega⟩
end SCopy14
namespace SCom14
open Fil14 OpensF14 DiskH14 DkH14 SDk14 SOk14 App14 SLess14 SCopy14
theorem ixF{a:Option Addr}{g n k:Nat}(c:Nat)(e:a=some ⟨g,0,none⟩)(h:k<n)(w:World):(Instr.indexAt 36 (.slice a n c) (.int .i64 k)).run Tryz.prog w= .ok (.pointer (some ⟨g,k*3,none⟩)) w:=by
 subst e
 have:(k:Int)<n:=by omega
 simp[go_sem,this]
theorem begunD{w:World}{x:Dx}(hr:RdD w x):Wd w ((w.alloc (.cells #[.int .i64 x.room,.slice x.a x.ps.length x.c] 38)).alloc (.cells #[.int .i64 0,.slice none 0 0] 38)) x∧Bc ((w.alloc (.cells #[.int .i64 x.room,.slice x.a x.ps.length x.c] 38)).alloc (.cells #[.int .i64 0,.slice none 0 0] 38)) w.heap.size (w.heap.size+1) (.int .i64 0) (.slice none 0 0):=
 ⟨(Wd.made hr _).step (one_more _ _),Bc.made _ _ (by simp) (by simp)⟩
theorem endedD{w u:World}{base0:Nat}{y:Dx}(b:Below w.heap.size w u)(rb:Bc u w.heap.size (w.heap.size+1) (.int .i64 0) (.slice none 0 0))(o:OwD u base0 y)(hb:w.heap.size+1<base0):OwD ((u.setCell ⟨w.heap.size+1,0,none⟩ (.int .i64 y.room)).setCell ⟨w.heap.size+1,1,none⟩ (.slice y.a y.ps.length y.c)) w.heap.size y∧Below w.heap.size w ((u.setCell ⟨w.heap.size+1,0,none⟩ (.int .i64 y.room)).setCell ⟨w.heap.size+1,1,none⟩ (.slice y.a y.ps.length y.c)):=by
 have s0:=rb.set0 (.int .i64 y.room)
 have s1:=bc_set1 s0.1 (.slice y.a y.ps.length y.c)
 have st:=grow_grow s0.2 s1.2
 exact⟨row_base (row_kept o st hb) (by omega),grow_low b st ⟨by omega,b.size⟩⟩
end SCom14
namespace SPut14
open Fil14 OpensF14 DiskH14 DkH14 SDk14 SOk14 App14 SLess14 SCopy14
open DkH14 (row_step)
structure Pt(B O:Nat)(W wr:World)(room:Int)(L:List TF)(a:Option Addr)(m c:Nat):Prop where
 gr:W.grownBy wr (some O)
 bx:Bc wr B O (.int .i64 room) (.slice a m c)
 ow:wr.ownsRow W.heap.size 64 3 (.slice a m c) m (flatF L)
theorem Pt.drew{B O:Nat}{W wr:World}{room:Int}{L:List TF}{a:Option Addr}{m c:Nat}(h:Pt B O W wr room L a m c):Pt B O W wr.drew room L a m c:=⟨⟨h.gr.os,h.gr.tape,h.gr.output,h.gr.size,h.gr.block⟩,h.bx,h.ow⟩
theorem Pt.off{B O:Nat}{W wr:World}{room:Int}{L:List TF}{a:Option Addr}{m c:Nat}(h:Pt B O W wr room L a m c):∀j,(Value.slice a m c).ownBlock=some j→W.heap.size≤j:=fun j hj=>(World.ownsRow.lt h.ow j hj).1
theorem Pt.app{B O:Nat}{W wr V u:World}{room:Int}{L:List TF}{a:Option Addr}{m c g9 c9:Nat}{p:TF}(h:Pt B O W wr room L a m c)(hO:O<W.heap.size)(b:Below wr.heap.size wr V)(g:V.grownBy u (Value.slice a m c).ownBlock)
  (o:u.ownsRow W.heap.size 64 3 (.slice (some ⟨g9,0,none⟩) (m+1) c9) (m+1) (flatF L++[.int .i64 p.1,.string p.2.1,.string p.2.2])):
  Bc u B O (.int .i64 room) (.slice a m c)∧Pt B O W (u.setCell ⟨O,1,none⟩ (.slice (some ⟨g9,0,none⟩) (m+1) c9)) room (L++[p]) (some ⟨g9,0,none⟩) (m+1) c9:=by
 have NG:some O≠(Value.slice a m c).ownBlock:=fun e=>by have:=h.off _ e.symm;omega
 have bx9:=(h.bx.below b (h.bx.lt).2).kept g NG
 have gu:W.grownBy u (some O):=⟨(g.os.trans b.os).trans h.gr.os,(g.tape.trans b.tape).trans h.gr.tape,(g.output.trans b.output).trans h.gr.output,Nat.le_trans h.gr.size (Nat.le_trans b.size g.size),fun i hi hr=>by
  have l:i<wr.heap.size:=Nat.lt_of_lt_of_le hi h.gr.size
  exact((g.block i (Nat.lt_of_lt_of_le l b.size) (fun e=>by have:=h.off i e.symm;omega)).trans (b.block i l)).trans (h.gr.block i hi hr)⟩
 have s:=bc_set1 bx9 (.slice (some ⟨g9,0,none⟩) (m+1) c9)
 refine⟨bx9,grow_grow gu s.2,s.1,?_⟩
 rw[flat_1]
 exact row_kept o s.2 hO
end SPut14
namespace SCrash14
open Fil14 OpensF14 DiskH14 DkH14 SDk14 SOk14 App14 SLess14 SCopy14 SCom14 SPut14
open DkH14 (row_step)
def crashF(keep:Int)(p:TF):TF:=(p.1,p.2.1++p.2.2.extract 0 (min (max keep 0) p.2.2.size).toNat,ByteArray.empty)
noncomputable def crashD (room:Int) (ps:List TF) (keep:Int):Int×List TF:= @ite _ (OkD room ps) (Classical.propDecidable _) (room,ps.map (crashF keep)) (0,[])
theorem sMax(w:World)(a b m:Int)(h:max a b=m):Calls Tryz.prog 173 #[.int .i64 a,.int .i64 b] w fun e w'=>e= .returned (.int .i64 m)∧w'=w:=by
 by_cases q:a>b
 ·have:m=a:=by omega
  subst this
  clear h
  go_enter Tryz.func173,Tryz.ntmps173
  go_wp2
  go_ret
  exact⟨rfl,rfl⟩
 ·have:m=b:=by omega
  subst this
  clear h
  go_enter Tryz.func173,Tryz.ntmps173
  go_wp2
  go_ret
  exact⟨rfl,rfl⟩
theorem sMin(w:World)(a b m:Int)(h:min a b=m):Calls Tryz.prog 172 #[.int .i64 a,.int .i64 b] w fun e w'=>e= .returned (.int .i64 m)∧w'=w:=by
 by_cases q:a<b
 ·have:m=a:=by omega
  subst this
  clear h
  go_enter Tryz.func172,Tryz.ntmps172
  go_wp2
  go_ret
  exact⟨rfl,rfl⟩
 ·have:m=b:=by omega
  subst this
  clear h
  go_enter Tryz.func172,Tryz.ntmps172
  go_wp2
  go_ret
  exact⟨rfl,rfl⟩
abbrev oA0:Oper:={dst:=some 28,op:=Go.Op.move (Go.Operand.tmp 1),type:=3,pos:= "l14_disk.go:162",after:= #[],guard:=none}
abbrev oA1:Oper:={dst:=some 29,op:=Go.Op.call {callee:=Go.Callee.value (Go.Operand.func 173),args:= #[Go.Operand.tmp 28,Go.Operand.const (Go.Value.int Go.IntKind.i64 0)],argTypes:= #[3,3]},type:=3,pos:= "l14_disk.go:162",after:= #[{on:=0,ground:=Go.Ground.data}],guard:=none}
abbrev oA2:Oper:={dst:=some 30,op:=Go.Op.fieldAddr 64 (Go.Operand.tmp 7) 2,type:=0,pos:= "l14_disk.go:162",after:= #[],guard:=none}
abbrev oA3:Oper:={dst:=some 31,op:=Go.Op.load 9 (Go.Operand.tmp 30),type:=9,pos:= "l14_disk.go:162",after:= #[{on:=2,ground:=Go.Ground.data}],guard:=none}
abbrev oA4:Oper:={dst:=some 32,op:=Go.Op.call {callee:=Go.Callee.builtin Go.Builtin.len,args:= #[Go.Operand.tmp 31],argTypes:= #[9]},type:=3,pos:= "l14_disk.go:162",after:= #[{on:=3,ground:=Go.Ground.data}],guard:=none}
abbrev oA5:Oper:={dst:=some 33,op:=Go.Op.call {callee:=Go.Callee.value (Go.Operand.func 172),args:= #[Go.Operand.tmp 29,Go.Operand.tmp 32],argTypes:= #[3,3]},type:=3,pos:= "l14_disk.go:162",after:= #[{on:=1,ground:=Go.Ground.data},{on:=4,ground:=Go.Ground.data},{on:=1,ground:=Go.Ground.chain}],guard:=none}
abbrev oA6:Oper:={dst:=some 8,op:=Go.Op.assign (Go.Operand.tmp 33),type:=3,pos:= "l14_disk.go:162",after:= #[{on:=5,ground:=Go.Ground.data},{on:=5,ground:=Go.Ground.chain},{on:=0,ground:=Go.Ground.phase},{on:=1,ground:=Go.Ground.phase},{on:=2,ground:=Go.Ground.phase},{on:=3,ground:=Go.Ground.phase},{on:=4,ground:=Go.Ground.phase},{on:=5,ground:=Go.Ground.phase}],guard:=none}
abbrev oB0:Oper:={dst:=some 34,op:=Go.Op.fieldAddr 38 (Go.Operand.tmp 5) 1,type:=0,pos:= "l14_disk.go:163",after:= #[],guard:=none}
abbrev oB1:Oper:={dst:=some 35,op:=Go.Op.load 36 (Go.Operand.tmp 34),type:=36,pos:= "l14_disk.go:163",after:= #[{on:=0,ground:=Go.Ground.data}],guard:=none}
abbrev oB2:Oper:={dst:=some 36,op:=Go.Op.fieldAddr 64 (Go.Operand.tmp 7) 0,type:=0,pos:= "l14_disk.go:163",after:= #[],guard:=none}
abbrev oB3:Oper:={dst:=some 37,op:=Go.Op.load 3 (Go.Operand.tmp 36),type:=3,pos:= "l14_disk.go:163",after:= #[{on:=2,ground:=Go.Ground.data}],guard:=none}
abbrev oB4:Oper:={dst:=some 38,op:=Go.Op.fieldAddr 64 (Go.Operand.tmp 7) 1,type:=0,pos:= "l14_disk.go:163",after:= #[],guard:=none}
abbrev oB5:Oper:={dst:=some 39,op:=Go.Op.load 9 (Go.Operand.tmp 38),type:=9,pos:= "l14_disk.go:163",after:= #[{on:=4,ground:=Go.Ground.data}],guard:=none}
abbrev oB6:Oper:={dst:=some 40,op:=Go.Op.fieldAddr 64 (Go.Operand.tmp 7) 2,type:=0,pos:= "l14_disk.go:163",after:= #[],guard:=none}
abbrev oB7:Oper:={dst:=some 41,op:=Go.Op.load 9 (Go.Operand.tmp 40),type:=9,pos:= "l14_disk.go:163",after:= #[{on:=6,ground:=Go.Ground.data}],guard:=none}
abbrev oB8:Oper:={dst:=some 42,op:=Go.Op.move (Go.Operand.tmp 8),type:=3,pos:= "l14_disk.go:163",after:= #[],guard:=none}
abbrev oB9:Oper:={dst:=some 43,op:=Go.Op.slice 9 (Go.Operand.tmp 41) none (some (Go.Operand.tmp 42)) none,type:=9,pos:= "l14_disk.go:163",after:= #[{on:=7,ground:=Go.Ground.data},{on:=8,ground:=Go.Ground.data}],guard:=none}
abbrev oB10:Oper:={dst:=some 44,op:=Go.Op.binOp Go.BinOp.add 9 (Go.Operand.tmp 39) (Go.Operand.tmp 43) 9,type:=9,pos:= "l14_disk.go:163",after:= #[{on:=5,ground:=Go.Ground.data},{on:=9,ground:=Go.Ground.data}],guard:=none}
abbrev oB11:Oper:={dst:=some 45,op:=Go.Op.build 64 #[(0,Go.Operand.tmp 37),(1,Go.Operand.tmp 44)],type:=64,pos:= "l14_disk.go:163",after:= #[{on:=3,ground:=Go.Ground.data},{on:=10,ground:=Go.Ground.data}],guard:=none}
abbrev oB12:Oper:={dst:=some 46,op:=Go.Op.buildSlice 36 1 #[(0,Go.Operand.tmp 45)],type:=36,pos:= "l14_disk.go:163",after:= #[{on:=11,ground:=Go.Ground.data}],guard:=none}
abbrev oB13:Oper:={dst:=some 47,op:=Go.Op.call {callee:=Go.Callee.builtin Go.Builtin.append,args:= #[Go.Operand.tmp 35,Go.Operand.tmp 46],argTypes:= #[36,36]},type:=36,pos:= "l14_disk.go:163",after:= #[{on:=1,ground:=Go.Ground.data},{on:=12,ground:=Go.Ground.data}],guard:=none}
abbrev oB14:Oper:={dst:=some 48,op:=Go.Op.fieldAddr 38 (Go.Operand.tmp 5) 1,type:=0,pos:= "l14_disk.go:163",after:= #[{on:=0,ground:=Go.Ground.phase},{on:=1,ground:=Go.Ground.phase},{on:=2,ground:=Go.Ground.phase},{on:=3,ground:=Go.Ground.phase},{on:=4,ground:=Go.Ground.phase},{on:=5,ground:=Go.Ground.phase},{on:=6,ground:=Go.Ground.phase},{on:=7,ground:=Go.Ground.phase},{on:=8,ground:=Go.Ground.phase},{on:=9,ground:=Go.Ground.phase},{on:=10,ground:=Go.Ground.phase},{on:=11,ground:=Go.Ground.phase},{on:=12,ground:=Go.Ground.phase},{on:=13,ground:=Go.Ground.phase}],guard:=none}
abbrev oB15:Oper:={dst:=none,op:=Go.Op.store 36 (Go.Operand.tmp 48) (Go.Operand.tmp 47),type:=0,pos:= "l14_disk.go:163",after:= #[{on:=14,ground:=Go.Ground.data},{on:=13,ground:=Go.Ground.data},{on:=13,ground:=Go.Ground.chain},{on:=0,ground:=Go.Ground.phase},{on:=1,ground:=Go.Ground.phase},{on:=2,ground:=Go.Ground.phase},{on:=3,ground:=Go.Ground.phase},{on:=4,ground:=Go.Ground.phase},{on:=5,ground:=Go.Ground.phase},{on:=6,ground:=Go.Ground.phase},{on:=7,ground:=Go.Ground.phase},{on:=8,ground:=Go.Ground.phase},{on:=9,ground:=Go.Ground.phase},{on:=10,ground:=Go.Ground.phase},{on:=11,ground:=Go.Ground.phase},{on:=12,ground:=Go.Ground.phase},{on:=13,ground:=Go.Ground.phase}],guard:=none}
theorem sDiskCrash(w:World)(x:Dx)(keep:Int)(hr:RdD w x)(hz:sumZ x.ps≤1048576):
  Calls Tryz.prog 120 #[.agg #[.int .i64 x.room,.slice x.a x.ps.length x.c],.int .i64 keep] w fun e w'=>∃y:Dx,(y.room,y.ps)=crashD x.room x.ps keep∧e= .returned (.agg #[.int .i64 y.room,.slice y.a y.ps.length y.c])∧OwD w' w.heap.size y∧Below w.heap.size w w':=by
 have G0:=zh (begunD hr)
 have s2:((w.alloc (.cells #[.int .i64 x.room,.slice x.a x.ps.length x.c] 38)).alloc (.cells #[.int .i64 0,.slice none 0 0] 38)).heap.size=w.heap.size+2:=by simp
 have OK0:=zh (sDiskOk _ x (zu G0).1.r hz)
 have RG:=zh (fun g e=>(hr.r g e).1)
 clear hr
 by_cases q:OkD x.room x.ps
 case neg=>
  have E:=zh (show crashD x.room x.ps keep=(0,[]) from if_neg q)
  have OK:=zh (show Calls Tryz.prog 25 #[.agg #[.int .i64 x.room,.slice x.a x.ps.length x.c]] _ fun e w'=>e= .returned (.bool false)∧Below _ _ w' by have:=zu OK0;rw[decide_eq_false q] at this;exact this)
  generalize crashD x.room x.ps keep=rr at *
  clear OK0 q
  go_enter Tryz.func120,Tryz.ntmps120
  go_wp2_with fail
  refine(zu OK).mono ?_
  rintro e u ⟨rfl,b1⟩
  have R2:=zh ((zu G0).2.below b1 (by omega))
  have EN:=zh (endedD (y:=⟨0,none,0,[]⟩) (base0:=w.heap.size+2) (((zu G0).1.step b1).b) (zu R2) ⟨rfl,.inl ⟨rfl,rfl⟩⟩ (by omega))
  have f0:=(zu R2).free 0
  have f1:=(zu R2).free 1
  have r0:=(zu R2).c0
  have r1:=(zu R2).c1
  clear b1
  go_wp2
  refine bodyPost_ret (v:= .agg #[.int .i64 0,.slice none 0 0]) (by simp[results,Tryz.results120,go_sem,r0,r1]) rfl ⟨⟨0,none,0,[]⟩,(zu E).symm,rfl,(zu EN).1,(zu EN).2⟩
 have E:=zh (show crashD x.room x.ps keep=(x.room,x.ps.map (crashF keep)) from if_pos q)
 have OK:=zh (show Calls Tryz.prog 25 #[.agg #[.int .i64 x.room,.slice x.a x.ps.length x.c]] _ fun e w'=>e= .returned (.bool true)∧Below _ _ w' by have:=zu OK0;rw[decide_eq_true q] at this;exact this)
 have h22:=q.2.1
 generalize crashD x.room x.ps keep=rr at *
 clear OK0 q
 go_enter Tryz.func120,Tryz.ntmps120
 go_wp2_with fail
 refine(zu OK).mono ?_
 rintro e u ⟨rfl,b1⟩
 have W1:=zh ((zu G0).1.step b1)
 have R1:=zh ((zu G0).2.below b1 (by omega))
 have us:=b1.size
 clear b1 G0 OK
 have W3:=zh ((zu W1).step (one_more u (.cells #[.int .i64 x.room,.slice none 0 0] 38)))
 have R3:=zh ((zu R1).below (one_more u (.cells #[.int .i64 x.room,.slice none 0 0] 38)) (zu R1).lt.2)
 have P0:=zh (show Pt w.heap.size u.heap.size (u.alloc (.cells #[.int .i64 x.room,.slice none 0 0] 38)) (u.alloc (.cells #[.int .i64 x.room,.slice none 0 0] 38)) x.room ((x.ps.take 0).map (crashF keep)) none 0 0 from⟨World.grownBy.refl _ _,Bc.made _ _ (by omega) rfl,⟨rfl,.inl ⟨rfl,rfl⟩⟩⟩)
 have s3:(u.alloc (.cells #[.int .i64 x.room,.slice none 0 0] 38)).heap.size=u.heap.size+1:=by simp
 have c0:=(zu W1).c0
 have c1:=(zu W1).c1
 have lt:=(zu W1).lt
 go_wp2
 generalize u.alloc (.cells #[.int .i64 x.room,.slice none 0 0] 38)=W at *
 clear c0 c1
 go_loopw [6,7,8] (fun i _ _ wr=>∃(m c:Nat) (a:Option Addr),i= .int .i64 m∧m≤x.ps.length∧Hid (Pt w.heap.size u.heap.size W wr x.room ((x.ps.take m).map (crashF keep)) a m c)) (fun i _ _ _=>x.ps.length-(intOf i).toNat)
 case atStart=>exact⟨0,0,none,rfl,by omega,P0⟩
 case round=>
  clear P0
  obtain⟨m,c,a,rfl,hm,PT⟩:=hrel
  have gs:=(zu PT).gr.size
  have c1:=(kcell (zu PT).gr 1 (show w.heap.size<W.heap.size from by omega) (by omega)).trans (zu W3).c1
  by_cases t:m<x.ps.length
  ·have kt:(m:Int)<x.ps.length:=by omega
   have TK:=zh (show(x.ps.take (m+1)).map (crashF keep)=(x.ps.take m).map (crashF keep)++[crashF keep (elF x.ps m)] from by rw[List.take_succ_eq_append_getElem t,List.map_append];simp[List.getD,t])
   obtain⟨g,ea,lg,e0,e1,e2⟩:=cells_of (zu W3).r t
   have lg0:=(zu RG) g ea
   have gn:g≠u.heap.size:=by omega
   have d0:=(kcell (zu PT).gr (m*3) lg gn).trans e0
   have d1:=(kcell (zu PT).gr (m*3+1) lg gn).trans e1
   have d2:=(kcell (zu PT).gr (m*3+2) lg gn).trans e2
   have ix:=ixF x.c ea t
   have NX:=sumZ_next t
   have LE:=sumZ_le x.ps (m+1)
   have sz:(elF x.ps m).2.1.size+(elF x.ps m).2.2.size≤1048576:=by omega
   generalize hp:elF x.ps m=p at *
   obtain⟨z0,z1,z2⟩:=p
   simp only at d0 d1 d2 sz
   obtain⟨km,hkm⟩:∃km,max keep 0=km:=⟨_,rfl⟩
   obtain⟨kn,hkn⟩:∃kn:Nat,min km (z2.size:Int)=kn:=⟨(min km (z2.size:Int)).toNat,by omega⟩
   have HKM:=zh hkm
   have HKK:=zh hkn
   have kz:(kn:Int)≤z2.size:=by omega
   have TE:crashF keep (z0,z1,z2)=(z0,z1++z2.extract 0 kn,ByteArray.empty):=by
    unfold crashF
    simp only[hkm,hkn,Int.toNat_natCast]
   rw[TE] at TK
   have sx:z1.size+(z2.extract 0 kn).size≤1048576:=by
    have:(z2.extract 0 kn).size≤z2.size:=by simp;omega
    omega
   have sm:z1.size+min kn z2.size≤9223372036854775807:=by omega
   clear e0 e1 e2 ea hp NX LE TE hkm hkn
   have K8:(wr.alloc (.cells #[.int .i64 z0,.string z1,.string z2] 64)).cell? ⟨wr.heap.size,0,none⟩=some (.int .i64 z0)∧(wr.alloc (.cells #[.int .i64 z0,.string z1,.string z2] 64)).cell? ⟨wr.heap.size,1,none⟩=some (.string z1)∧(wr.alloc (.cells #[.int .i64 z0,.string z1,.string z2] 64)).cell? ⟨wr.heap.size,2,none⟩=some (.string z2):=by simp
   obtain⟨V,hV⟩:∃V,Hid (V=wr.alloc (.cells #[.int .i64 z0,.string z1,.string z2] 64)):=⟨_,rfl⟩
   have vL:=zh (show wr.heap.size<V.heap.size by rw[zu hV];simp)
   have bV:=zh (show Below wr.heap.size wr V by rw[zu hV];exact one_more _ _)
   rw[←zu hV] at K8
   go_wp2_with fail
   rw[←zu hV]
   clear hV
   refine wp_region_held_drew (S:=(fun w'=>w'.cell? ⟨wr.heap.size,0,none⟩=some (.int .i64 z0)∧w'.cell? ⟨wr.heap.size,1,none⟩=some (.string z1)∧w'.cell? ⟨wr.heap.size,2,none⟩=some (.string z2))) (by kernel_rfl) K8 (fun hHeld=>?_)
   refine zT (oi:=oA0) 0 (.int .i64 keep) rfl hHeld ?_ (by intro w hSw;(try dsimp only at hSw);unfold oA0;go_simp)
   try simp only[oA0,Act.put,zA,zB,zC]
   refine zT (oi:=oA2) 2 (.pointer (some ⟨wr.heap.size,2,none⟩)) rfl hHeld ?_ (by intro w hSw;(try dsimp only at hSw);unfold oA2;go_simp)
   try simp only[oA2,Act.put,zA,zB,zC]
   refine zT (oi:=oA3) 3 (.string z2) rfl hHeld ?_ (by intro w hSw;(try dsimp only at hSw);unfold oA3;go_simp)
   try simp only[oA3,Act.put,zA,zB,zC]
   refine zT (oi:=oA4) 4 (.int .i64 z2.size) rfl hHeld ?_ (by intro w hSw;(try dsimp only at hSw);unfold oA4;go_simp)
   try simp only[oA4,Act.put,zA,zB,zC]
   refine zR (oi:=oA1) 1 rfl (fun K hK=>?_)
   unfold oA1
   go_simp
   go_wp2_with fail
   refine(sMax _ keep 0 km (zu HKM)).mono ?_
   rintro e v1 ⟨rfl,rfl⟩
   go_wp2_with fail
   refine hK.out _ _ K8 (fun hHeld=>?_)
   clear hK K
   try simp only[oA1,Act.put,zA,zB,zC]
   refine zR (oi:=oA5) 5 rfl (fun K hK=>?_)
   unfold oA5
   go_simp
   go_wp2_with fail
   refine(sMin _ km z2.size kn (zu HKK)).mono ?_
   rintro e v2 ⟨rfl,rfl⟩
   go_wp2_with fail
   refine hK.out _ _ K8 (fun hHeld=>?_)
   clear hK K
   try simp only[oA5,Act.put,zA,zB,zC]
   refine zT (oi:=oA6) 6 (.int .i64 kn) rfl hHeld ?_ (by intro w hSw;(try dsimp only at hSw);unfold oA6;go_simp)
   try simp only[oA6,Act.put,zA,zB,zC]
   refine wpAnyH_done (by kernel_rfl) ?_ _
   obtain⟨V2,hV2⟩:∃V2,Hid (V2=V.drew):=⟨_,rfl⟩
   have bV2:=zh (show Below wr.heap.size wr V2 by rw[zu hV2];exact(zu bV).drew)
   have K9:V2.cell? ⟨wr.heap.size,0,none⟩=some (.int .i64 z0)∧V2.cell? ⟨wr.heap.size,1,none⟩=some (.string z1)∧V2.cell? ⟨wr.heap.size,2,none⟩=some (.string z2):=by rw[zu hV2];exact K8
   have g9:=(zu bV2).size
   have vl:wr.heap.size<V2.heap.size:=by rw[zu hV2];exact(zu vL)
   have wl:=(zu PT).bx.lt.2
   have bc:=((zu PT).bx.below (zu bV2) wl).c1
   have K0:V2.cell? ⟨wr.heap.size,0,none⟩=some (.int .i64 z0)∧V2.cell? ⟨wr.heap.size,1,none⟩=some (.string z1)∧V2.cell? ⟨wr.heap.size,2,none⟩=some (.string z2):=K9
   have KB:(V2.drew.alloc (.cells #[.int .i64 z0,.string (z1++z2.extract 0 kn),.string ⟨#[]⟩] 64)).cell? ⟨wr.heap.size,0,none⟩=some (.int .i64 z0)∧(V2.drew.alloc (.cells #[.int .i64 z0,.string (z1++z2.extract 0 kn),.string ⟨#[]⟩] 64)).cell? ⟨wr.heap.size,1,none⟩=some (.string z1)∧(V2.drew.alloc (.cells #[.int .i64 z0,.string (z1++z2.extract 0 kn),.string ⟨#[]⟩] 64)).cell? ⟨wr.heap.size,2,none⟩=some (.string z2):=⟨((one_more V2.drew (.cells #[.int .i64 z0,.string (z1++z2.extract 0 kn),.string ⟨#[]⟩] 64)).cell (p:=⟨wr.heap.size,0,none⟩) vl).trans K9.1,((one_more V2.drew (.cells #[.int .i64 z0,.string (z1++z2.extract 0 kn),.string ⟨#[]⟩] 64)).cell (p:=⟨wr.heap.size,1,none⟩) vl).trans K9.2.1,((one_more V2.drew (.cells #[.int .i64 z0,.string (z1++z2.extract 0 kn),.string ⟨#[]⟩] 64)).cell (p:=⟨wr.heap.size,2,none⟩) vl).trans K9.2.2⟩
   have bcD:V2.drew.cell? ⟨u.heap.size,1,none⟩=some (.slice a m c):=bc
   have bcA:(V2.alloc (.cells #[.int .i64 z0,.string (z1++z2.extract 0 kn),.string ⟨#[]⟩] 64)).cell? ⟨u.heap.size,1,none⟩=some (.slice a m c):=((one_more V2.drew (.cells #[.int .i64 z0,.string (z1++z2.extract 0 kn),.string ⟨#[]⟩] 64)).cell (p:=⟨u.heap.size,1,none⟩) (show u.heap.size<V2.heap.size from by omega)).trans bc
   go_wp2_with fail
   rw[←zu hV2]
   clear hV2
   refine wp_region_held_drew (S:=(fun w'=>w'.cell? ⟨wr.heap.size,0,none⟩=some (.int .i64 z0)∧w'.cell? ⟨wr.heap.size,1,none⟩=some (.string z1)∧w'.cell? ⟨wr.heap.size,2,none⟩=some (.string z2))) (by kernel_rfl) K0 (fun hHeld=>?_)
   refine zT (oi:=oB0) 0 (.pointer (some ⟨u.heap.size,1,none⟩)) rfl hHeld ?_ (by intro w hSw;(try dsimp only at hSw);unfold oB0;go_simp)
   try simp only[oB0,Act.put,zA,zB,zC]
   refine zT (oi:=oB2) 2 (.pointer (some ⟨wr.heap.size,0,none⟩)) rfl hHeld ?_ (by intro w hSw;(try dsimp only at hSw);unfold oB2;go_simp)
   try simp only[oB2,Act.put,zA,zB,zC]
   refine zT (oi:=oB3) 3 (.int .i64 z0) rfl hHeld ?_ (by intro w hSw;(try dsimp only at hSw);unfold oB3;go_simp)
   try simp only[oB3,Act.put,zA,zB,zC]
   refine zT (oi:=oB4) 4 (.pointer (some ⟨wr.heap.size,1,none⟩)) rfl hHeld ?_ (by intro w hSw;(try dsimp only at hSw);unfold oB4;go_simp)
   try simp only[oB4,Act.put,zA,zB,zC]
   refine zT (oi:=oB5) 5 (.string z1) rfl hHeld ?_ (by intro w hSw;(try dsimp only at hSw);unfold oB5;go_simp)
   try simp only[oB5,Act.put,zA,zB,zC]
   refine zT (oi:=oB6) 6 (.pointer (some ⟨wr.heap.size,2,none⟩)) rfl hHeld ?_ (by intro w hSw;(try dsimp only at hSw);unfold oB6;go_simp)
   try simp only[oB6,Act.put,zA,zB,zC]
   refine zT (oi:=oB7) 7 (.string z2) rfl hHeld ?_ (by intro w hSw;(try dsimp only at hSw);unfold oB7;go_simp)
   try simp only[oB7,Act.put,zA,zB,zC]
   refine zT (oi:=oB8) 8 (.int .i64 kn) rfl hHeld ?_ (by intro w hSw;(try dsimp only at hSw);unfold oB8;go_simp)
   try simp only[oB8,Act.put,zA,zB,zC]
   refine zT (oi:=oB9) 9 (.string (z2.extract 0 kn)) rfl hHeld ?_ (by intro w hSw;(try dsimp only at hSw);unfold oB9;go_simp)
   try simp only[oB9,Act.put,zA,zB,zC]
   refine zT (oi:=oB10) 10 (.string (z1++z2.extract 0 kn)) rfl hHeld ?_ (by intro w hSw;(try dsimp only at hSw);unfold oB10;go_simp)
   try simp only[oB10,Act.put,zA,zB,zC]
   refine zT (oi:=oB11) 11 (.agg #[.int .i64 z0,.string (z1++z2.extract 0 kn),.string ⟨#[]⟩]) rfl hHeld ?_ (by intro w hSw;(try dsimp only at hSw);unfold oB11;go_simp)
   try simp only[oB11,Act.put,zA,zB,zC]
   refine wpAnyH_ready (rs:=[1,12]) (by kernel_rfl) (by simp) ?_
   refine AllReadyH.cons (o:=oB1) rfl (fun K hK=>?_) (AllReadyH.cons (o:=oB12) rfl (fun K hK=>?_) AllReadyH.nil)
   ·unfold oB1
    go_simp
    refine hK.out _ _ K0 (fun hHeld=>?_)
    clear hK K
    try simp only[oB1,Act.put,zA,zB,zC]
    refine zR (oi:=oB12) 12 rfl (fun K hK=>?_)
    unfold oB12
    go_simp
    refine hK.out _ _ KB (fun hHeld=>?_)
    clear hK K
    try simp only[oB12,Act.put,zA,zB,zC]
    refine zR (oi:=oB13) 13 rfl (fun K hK=>?_)
    refine step_app (V2.drew.alloc (.cells #[.int .i64 z0,.string (z1++z2.extract 0 kn),.string ⟨#[]⟩] 64)) (by rfl) _ _ 36 64 (by rfl) (.agg #[.int .i64 0,.string ByteArray.empty,.string ByteArray.empty]) 3 40 Tryz.underlying36 HelpF14.info2 rfl (by decide) (by decide) W.heap.size (.slice a m c) m (flatF ((x.ps.take m).map (crashF keep))) V2.drew.heap.size [.int .i64 z0,.string (z1++z2.extract 0 kn),.string ⟨#[]⟩] (by rfl) (by rfl) (row_step (W:=V2.drew) (row_step (zu PT).ow (zu bV2).drew) (one_more V2.drew (.cells #[.int .i64 z0,.string (z1++z2.extract 0 kn),.string ⟨#[]⟩] 64))) rfl (litm V2.drew _ _ _ (by rfl)) (by simp[Value.oneCell']) (by omega) (Nat.le_trans (show W.heap.size≤V2.heap.size from by have:=(zu PT).gr.size;omega) (by simp)) ?_
    intro g9' c9 u9 o9 gr9
    have PA:=zh (Pt.app (p:=(z0,z1++z2.extract 0 kn,ByteArray.empty)) (zu PT) (by omega) (show Below wr.heap.size wr (V2.drew.alloc (.cells #[.int .i64 z0,.string (z1++z2.extract 0 kn),.string ⟨#[]⟩] 64)) from(zu bV2).drew.alloc (show wr.heap.size≤V2.drew.heap.size from g9) _) gr9 o9)
    have fr9:u9.frozen? ⟨u.heap.size,1,none⟩=false:=(zu PA).1.free 1
    have bc9:=(zu PA).1.c1
    have gs9:=gr9.size
    have NB:some wr.heap.size≠(Value.slice a m c).ownBlock:=fun e=>by have:=(World.ownsRow.lt (zu PT).ow _ e.symm).2;omega
    have KC:u9.cell? ⟨wr.heap.size,0,none⟩=some (.int .i64 z0)∧u9.cell? ⟨wr.heap.size,1,none⟩=some (.string z1)∧u9.cell? ⟨wr.heap.size,2,none⟩=some (.string z2):=⟨gr9.cell KB.1 NB,gr9.cell KB.2.1 NB,gr9.cell KB.2.2 NB⟩
    have sg:=(bc_set1 (zu PA).1 (.slice (some ⟨g9',0,none⟩) (m+1) c9)).2
    have KD:(u9.setCell ⟨u.heap.size,1,none⟩ (.slice (some ⟨g9',0,none⟩) (m+1) c9)).cell? ⟨wr.heap.size,0,none⟩=some (.int .i64 z0)∧(u9.setCell ⟨u.heap.size,1,none⟩ (.slice (some ⟨g9',0,none⟩) (m+1) c9)).cell? ⟨wr.heap.size,1,none⟩=some (.string z1)∧(u9.setCell ⟨u.heap.size,1,none⟩ (.slice (some ⟨g9',0,none⟩) (m+1) c9)).cell? ⟨wr.heap.size,2,none⟩=some (.string z2):=⟨(kcell sg 0 (show wr.heap.size<u9.heap.size from by have:V2.heap.size<(V2.drew.alloc (.cells #[.int .i64 z0,.string (z1++z2.extract 0 kn),.string ⟨#[]⟩] 64)).heap.size:=(by show V2.heap.size<(V2.heap.push _).size;rw[Array.size_push];omega);omega) (show wr.heap.size≠u.heap.size from by omega)).trans KC.1,(kcell sg 1 (show wr.heap.size<u9.heap.size from by have:V2.heap.size<(V2.drew.alloc (.cells #[.int .i64 z0,.string (z1++z2.extract 0 kn),.string ⟨#[]⟩] 64)).heap.size:=(by show V2.heap.size<(V2.heap.push _).size;rw[Array.size_push];omega);omega) (show wr.heap.size≠u.heap.size from by omega)).trans KC.2.1,(kcell sg 2 (show wr.heap.size<u9.heap.size from by have:V2.heap.size<(V2.drew.alloc (.cells #[.int .i64 z0,.string (z1++z2.extract 0 kn),.string ⟨#[]⟩] 64)).heap.size:=(by show V2.heap.size<(V2.heap.push _).size;rw[Array.size_push];omega);omega) (show wr.heap.size≠u.heap.size from by omega)).trans KC.2.2⟩
    clear o9 sg
    refine hK.out _ _ KC (fun hHeld=>?_)
    clear hK K
    try simp only[oB13,Act.put,zA,zB,zC]
    refine zT (oi:=oB14) 14 (.pointer (some ⟨u.heap.size,1,none⟩)) rfl hHeld ?_ (by intro w hSw;(try dsimp only at hSw);unfold oB14;go_simp)
    try simp only[oB14,Act.put,zA,zB,zC]
    refine zR (oi:=oB15) 15 rfl (fun K hK=>?_)
    unfold oB15
    go_simp
    refine hK.out _ _ KD (fun hHeld=>?_)
    clear hK K
    try simp only[oB15,Act.put,zA,zB,zC]
    refine wpAnyH_done (by kernel_rfl) ?_ _
    clear K0 KB KC KD gr9 bc bcD bcA bc9 fr9 K8 K9
    have PN:=zh (zu PA).2
    clear PA
    go_wp2
    go_roundw
    case rel=>exact⟨m+1,c9,some ⟨g9',0,none⟩,by go_num,by omega,zh (by rw[zu TK];exact zu PN)⟩
    case measure=>simp[intOf];omega
   ·unfold oB12
    go_simp
    refine hK.out _ _ KB (fun hHeld=>?_)
    clear hK K
    try simp only[oB12,Act.put,zA,zB,zC]
    refine zR (oi:=oB1) 1 rfl (fun K hK=>?_)
    unfold oB1
    go_simp
    refine hK.out _ _ KB (fun hHeld=>?_)
    clear hK K
    try simp only[oB1,Act.put,zA,zB,zC]
    refine zR (oi:=oB13) 13 rfl (fun K hK=>?_)
    refine step_app (V2.drew.alloc (.cells #[.int .i64 z0,.string (z1++z2.extract 0 kn),.string ⟨#[]⟩] 64)) (by rfl) _ _ 36 64 (by rfl) (.agg #[.int .i64 0,.string ByteArray.empty,.string ByteArray.empty]) 3 40 Tryz.underlying36 HelpF14.info2 rfl (by decide) (by decide) W.heap.size (.slice a m c) m (flatF ((x.ps.take m).map (crashF keep))) V2.drew.heap.size [.int .i64 z0,.string (z1++z2.extract 0 kn),.string ⟨#[]⟩] (by rfl) (by rfl) (row_step (W:=V2.drew) (row_step (zu PT).ow (zu bV2).drew) (one_more V2.drew (.cells #[.int .i64 z0,.string (z1++z2.extract 0 kn),.string ⟨#[]⟩] 64))) rfl (litm V2.drew _ _ _ (by rfl)) (by simp[Value.oneCell']) (by omega) (Nat.le_trans (show W.heap.size≤V2.heap.size from by have:=(zu PT).gr.size;omega) (by simp)) ?_
    intro g9' c9 u9 o9 gr9
    have PA:=zh (Pt.app (p:=(z0,z1++z2.extract 0 kn,ByteArray.empty)) (zu PT) (by omega) (show Below wr.heap.size wr (V2.drew.alloc (.cells #[.int .i64 z0,.string (z1++z2.extract 0 kn),.string ⟨#[]⟩] 64)) from(zu bV2).drew.alloc (show wr.heap.size≤V2.drew.heap.size from g9) _) gr9 o9)
    have fr9:u9.frozen? ⟨u.heap.size,1,none⟩=false:=(zu PA).1.free 1
    have bc9:=(zu PA).1.c1
    have gs9:=gr9.size
    have NB:some wr.heap.size≠(Value.slice a m c).ownBlock:=fun e=>by have:=(World.ownsRow.lt (zu PT).ow _ e.symm).2;omega
    have KC:u9.cell? ⟨wr.heap.size,0,none⟩=some (.int .i64 z0)∧u9.cell? ⟨wr.heap.size,1,none⟩=some (.string z1)∧u9.cell? ⟨wr.heap.size,2,none⟩=some (.string z2):=⟨gr9.cell KB.1 NB,gr9.cell KB.2.1 NB,gr9.cell KB.2.2 NB⟩
    have sg:=(bc_set1 (zu PA).1 (.slice (some ⟨g9',0,none⟩) (m+1) c9)).2
    have KD:(u9.setCell ⟨u.heap.size,1,none⟩ (.slice (some ⟨g9',0,none⟩) (m+1) c9)).cell? ⟨wr.heap.size,0,none⟩=some (.int .i64 z0)∧(u9.setCell ⟨u.heap.size,1,none⟩ (.slice (some ⟨g9',0,none⟩) (m+1) c9)).cell? ⟨wr.heap.size,1,none⟩=some (.string z1)∧(u9.setCell ⟨u.heap.size,1,none⟩ (.slice (some ⟨g9',0,none⟩) (m+1) c9)).cell? ⟨wr.heap.size,2,none⟩=some (.string z2):=⟨(kcell sg 0 (show wr.heap.size<u9.heap.size from by have:V2.heap.size<(V2.drew.alloc (.cells #[.int .i64 z0,.string (z1++z2.extract 0 kn),.string ⟨#[]⟩] 64)).heap.size:=(by show V2.heap.size<(V2.heap.push _).size;rw[Array.size_push];omega);omega) (show wr.heap.size≠u.heap.size from by omega)).trans KC.1,(kcell sg 1 (show wr.heap.size<u9.heap.size from by have:V2.heap.size<(V2.drew.alloc (.cells #[.int .i64 z0,.string (z1++z2.extract 0 kn),.string ⟨#[]⟩] 64)).heap.size:=(by show V2.heap.size<(V2.heap.push _).size;rw[Array.size_push];omega);omega) (show wr.heap.size≠u.heap.size from by omega)).trans KC.2.1,(kcell sg 2 (show wr.heap.size<u9.heap.size from by have:V2.heap.size<(V2.drew.alloc (.cells #[.int .i64 z0,.string (z1++z2.extract 0 kn),.string ⟨#[]⟩] 64)).heap.size:=(by show V2.heap.size<(V2.heap.push _).size;rw[Array.size_push];omega);omega) (show wr.heap.size≠u.heap.size from by omega)).trans KC.2.2⟩
    clear o9 sg
    refine hK.out _ _ KC (fun hHeld=>?_)
    clear hK K
    try simp only[oB13,Act.put,zA,zB,zC]
    refine zT (oi:=oB14) 14 (.pointer (some ⟨u.heap.size,1,none⟩)) rfl hHeld ?_ (by intro w hSw;(try dsimp only at hSw);unfold oB14;go_simp)
    try simp only[oB14,Act.put,zA,zB,zC]
    refine zR (oi:=oB15) 15 rfl (fun K hK=>?_)
    unfold oB15
    go_simp
    refine hK.out _ _ KD (fun hHeld=>?_)
    clear hK K
    try simp only[oB15,Act.put,zA,zB,zC]
    refine wpAnyH_done (by kernel_rfl) ?_ _
    clear K0 KB KC KD gr9 bc bcD bcA bc9 fr9 K8 K9
    have PN:=zh (zu PA).2
    clear PA
    go_wp2
    go_roundw
    case rel=>exact⟨m+1,c9,some ⟨g9',0,none⟩,by go_num,by omega,zh (by rw[zu TK];exact zu PN)⟩
    case measure=>simp[intOf];omega
  ·have e:m=x.ps.length:=by omega
   subst e
   have PN:=zu PT
   rw[List.take_length] at PN
   have B0:=PN.bx.c0
   have B1:=PN.bx.c1
   have R4:=zh ((zu R3).kept PN.gr (by simp;omega))
   have f0:=(zu R4).free 0
   have f1:=(zu R4).free 1
   have r0:=(zu R4).c0
   have r1:=(zu R4).c1
   have lm:(x.ps.map (crashF keep)).length=x.ps.length:=by simp
   have BW:=zh (show Below w.heap.size w wr from grow_low (zu W3).b PN.gr ⟨by omega,(zu W3).b.size⟩)
   have EN:=zh (endedD (y:=⟨x.room,a,c,x.ps.map (crashF keep)⟩) (base0:=W.heap.size) (zu BW) (zu R4) (show OwD wr W.heap.size ⟨x.room,a,c,x.ps.map (crashF keep)⟩ from by unfold OwD;simp only[lm];exact PN.ow) (by omega))
   simp only[lm] at EN
   clear PN PT lm
   go_wp2
   refine bodyPost_ret (v:= .agg #[.int .i64 x.room,.slice a x.ps.length c]) (by simp[results,Tryz.results120,go_sem,r0,r1]) rfl ⟨⟨x.room,a,c,x.ps.map (crashF keep)⟩,(zu E).symm,by simp,(zu EN).1,(zu EN).2⟩
end SCrash14
namespace Law14
open Fil14 OpensF14 DiskH14 DkH14 SCom14
structure La(w W:World)(k:Int)(a:Option Addr)(len cap:Nat)(ps:List TF):Prop where
 c0:W.cell? ⟨w.heap.size,0,none⟩=some (.int .i64 k)
 c1:W.cell? ⟨w.heap.size,1,none⟩=some (.slice a len cap)
 s:w.heap.size<W.heap.size
 b:Below w.heap.size w W
 r:ReadsF W a ps
section
variable {w W W':World} {k:Int} {a:Option Addr} {len cap:Nat} {ps:List TF}
theorem La.start(h:ReadsF w a ps)(e:TypeId):La w (w.alloc (.cells #[.int .i64 k,.slice a len cap] e)) k a len cap ps:=
 ⟨by simp,by simp,by simp,one_more _ _,h.below (one_more _ _)⟩
theorem La.step(h:La w W k a len cap ps)(b:Below W.heap.size W W'):La w W' k a len cap ps:=
 ⟨(b.cell (p:=⟨w.heap.size,0,none⟩) h.s).trans h.c0,(b.cell (p:=⟨w.heap.size,1,none⟩) h.s).trans h.c1,Nat.lt_of_lt_of_le h.s b.size,h.b.trans (b.mono (Nat.le_of_lt h.s)),h.r.below b⟩
theorem La.turn{B:Nat}(H:ReadsF w a ps)(h:La w W k a len cap ps)(b:Below B W W')(hB:w.heap.size<B):La w W' k a len cap ps:=by
 have q:=h.b.trans (b.mono (Nat.le_of_lt hB))
 exact⟨(b.cell (p:=⟨w.heap.size,0,none⟩) hB).trans h.c0,(b.cell (p:=⟨w.heap.size,1,none⟩) hB).trans h.c1,Nat.lt_of_lt_of_le h.s b.size,q,H.below q⟩
end
structure Kd(W:World)(g:Nat)(x:Dx):Prop where
 c0:W.cell? ⟨g,0,none⟩=some (.int .i64 x.room)
 c1:W.cell? ⟨g,1,none⟩=some (.slice x.a x.ps.length x.c)
 lt:g<W.heap.size
theorem Kd.made(w:World)(x:Dx)(e:TypeId):Kd (w.alloc (.cells #[.int .i64 x.room,.slice x.a x.ps.length x.c] e)) w.heap.size x:=⟨by simp,by simp,by simp⟩
theorem Kd.step{W W':World}{g:Nat}{x:Dx}(h:Kd W g x)(k:Below W.heap.size W W'):Kd W' g x:=
 ⟨(k.cell (p:=⟨g,0,none⟩) h.lt).trans h.c0,(k.cell (p:=⟨g,1,none⟩) h.lt).trans h.c1,Nat.lt_of_lt_of_le h.lt k.size⟩
theorem Kd.turn{W W':World}{g:Nat}{x y:Dx}(h:Kd W g x)(k:TurnD y W W')(n:some g≠(Value.slice y.a y.ps.length y.c).ownBlock):Kd W' g x:=by
 have e:W'.heap[g]?=W.heap[g]?:=k.block g h.lt n
 exact⟨(World.cell?_of_block (w:=W) e).trans h.c0,(World.cell?_of_block (w:=W) e).trans h.c1,Nat.lt_of_lt_of_le h.lt k.size⟩
end Law14
namespace IFile14
open Fil14 OpensF14 DiskH14 DkH14 SDk14 SOk14
theorem iName(w:World)(n:Int):Calls Tryz.prog 84 #[.int .i64 n] w fun e w'=>e= .returned (.bool (okN n))∧w'=w:=by
 unfold okN
 by_cases h0:0≤n
 ·by_cases h1:n≤21
  ·rw[decide_eq_true ⟨h0,h1⟩]
   have a:n≥0:=h0
   have b:n<22:=by omega
   clear h1
   go_enter Tryz.func84,Tryz.ntmps84
   go_wp2
   go_ret
   exact⟨rfl,rfl⟩
  ·rw[decide_eq_false (fun q=>h1 q.2)]
   have a:n≥0:=h0
   have b:¬n<22:=by omega
   clear h1
   go_enter Tryz.func84,Tryz.ntmps84
   go_wp2
   go_ret
   exact⟨rfl,rfl⟩
 ·rw[decide_eq_false (fun q=>h0 q.1)]
  have a:¬n≥0:=h0
  go_enter Tryz.func84,Tryz.ntmps84
  go_wp2
  go_ret
  exact⟨rfl,rfl⟩
theorem iNameB(w:World)(n:Int)(b:Bool)(h:okN n=b):Calls Tryz.prog 84 #[.int .i64 n] w fun e w'=>e= .returned (.bool b)∧w'=w:=by
 rw[←h]
 exact iName w n
theorem iSizeF(w:World)(p0:Int)(p1 p2:ByteArray)(h:p1.size+p2.size≤1048576):Calls Tryz.prog 83 #[.agg #[.int .i64 p0,.string p1,.string p2]] w fun e w'=>e= .returned (.int .i64 ((p1.size:Int)+p2.size))∧Below w.heap.size w w':=by
 have B:=zh (one_more w (.cells #[.int .i64 p0,.string p1,.string p2] 64))
 have a1:wrap64 ((p1.size:Int)+p2.size)=p1.size+p2.size:=by rw[wrap64];omega
 go_enter Tryz.func83,Tryz.ntmps83
 go_wp2
 go_ret
 exact⟨rfl,zu B⟩
end IFile14
namespace IOk14
open Fil14 OpensF14 DiskH14 DkH14 SDk14 SOk14 IFile14
def Okk(ps:List TF)(room:Int)(k:Nat)(lf y:Int):Prop:=lf=room-sumZ (ps.take k)∧(k=0→y= -1)∧(0<k→y=(elF ps (k-1)).1)∧∀i,i<k→okAt ps i
theorem okk_0(ps:List TF)(room:Int):Okk ps room 0 room (-1):=⟨by simp[sumZ],fun _=>rfl,fun h=>absurd h (by omega),fun i h=>absurd h (by omega)⟩
theorem okk_next{ps:List TF}{room:Int}{k:Nat}{lf y:Int}(h:Okk ps room k lf y)(hk:k<ps.length)(a:okN (elF ps k).1=true)(b:¬(elF ps k).1≤y):Okk ps room (k+1) (lf-((elF ps k).2.1.size+(elF ps k).2.2.size)) (elF ps k).1:=by
 obtain⟨h1,h2,h3,h4⟩:=h
 have n:=sumZ_next hk
 refine⟨by omega,fun e=>absurd e (by omega),fun _=>by simp,fun i hi=>?_⟩
 by_cases e:i=k
 ·subst e
  refine⟨a,fun p=>?_⟩
  have:=h3 p
  omega
 ·exact h4 i (by omega)
theorem okk_bad1{ps:List TF}{room:Int}{k:Nat}(hk:k<ps.length)(a:okN (elF ps k).1=false):¬OkD room ps:=fun h=>by
 have:=(h.2.2.2 k hk).1
 rw[a] at this
 cases this
theorem okk_bad2{ps:List TF}{room:Int}{k:Nat}{lf y:Int}(g:Okk ps room k lf y)(hk:k<ps.length)(a:okN (elF ps k).1=true)(b:(elF ps k).1≤y):¬OkD room ps:=fun h=>by
 have n:=(h.2.2.2 k hk).2
 have l:0≤(elF ps k).1:=(of_decide_eq_true a).1
 by_cases e:k=0
 ·have:=g.2.1 e
  omega
 ·have:=g.2.2.1 (by omega)
  have:=n (by omega)
  omega
theorem okk_bad3{ps:List TF}{room:Int}{k:Nat}{lf y:Int}(g:Okk ps room k lf y)(hk:k<ps.length)(b:lf-((elF ps k).2.1.size+(elF ps k).2.2.size)<0):¬OkD room ps:=fun h=>by
 have n:=sumZ_next hk
 have l:=sumZ_le ps (k+1)
 have:=h.2.2.1
 have:=g.1
 omega
theorem names_up{ps:List TF}(h:∀i,i<ps.length→okAt ps i):∀i:Nat,i<ps.length→(i:Int)≤(elF ps i).1
 |0=>fun q=>by
  have:=(h 0 q).1
  exact(of_decide_eq_true this).1
 |i+1=>fun q=>by
  have:=names_up h i (by omega)
  have:=(h (i+1) q).2 (by omega)
  simp only[Nat.add_sub_cancel] at this
  omega
theorem okk_all{ps:List TF}{room:Int}{lf y:Int}(g:Okk ps room ps.length lf y)(h0:0≤room∧room≤60000)(hl:0≤lf):OkD room ps:=by
 obtain⟨h1,_,_,h4⟩:=g
 rw[List.take_length] at h1
 refine⟨h0,?_,by omega,h4⟩
 by_cases e:ps.length=0
 ·omega
 ·have a:=names_up h4 (ps.length-1) (by omega)
  have b:=(h4 (ps.length-1) (by omega)).1
  have b:=(of_decide_eq_true b).2
  omega
theorem iDiskOk(w:World)(x:Dx)(hr:RdD w x)(hz:sumZ x.ps≤1048576):
  Calls Tryz.prog 32 #[.agg #[.int .i64 x.room,.slice x.a x.ps.length x.c]] w fun e w'=>e= .returned (.bool (decide (OkD x.room x.ps)))∧Below w.heap.size w w':=by
 have W0:=zh (Wd.made hr 38)
 have h20:=hr.n
 clear hr
 generalize hR:decide (OkD x.room x.ps)=R
 have HR:=zh hR
 clear hR
 by_cases q0:x.room<0
 ·obtain rfl:R=false:=by rw[←zu HR];exact decide_eq_false (fun h=>by have:=h.1;omega)
  clear HR
  go_enter Tryz.func32,Tryz.ntmps32
  go_wp2
  go_ret
  exact⟨rfl,(zu W0).b⟩
 have d0:decide (x.room<0)=false:=decide_eq_false q0
 by_cases q1:x.room>60000
 ·obtain rfl:R=false:=by rw[←zu HR];exact decide_eq_false (fun h=>by have:=h.1;omega)
  clear HR q0
  go_enter Tryz.func32,Tryz.ntmps32
  go_wp2
  go_ret
  exact⟨rfl,(zu W0).b⟩
 have d1:decide (x.room>60000)=false:=decide_eq_false q1
 have RM:=zh (show 0≤x.room∧x.room≤60000 by omega)
 have OK0:=zh (okk_0 x.ps x.room)
 clear q0 q1
 go_enter Tryz.func32,Tryz.ntmps32
 go_wp2
 go_loopw [3,4,20] (fun l b i wr=>∃(k:Nat) (lf y:Int),k≤x.ps.length∧i= .int .i64 k∧l= .int .i64 lf∧b= .int .i64 y∧0≤lf∧lf≤60000∧Hid (Okk x.ps x.room k lf y)∧Hid (Wd w wr x)) (fun _ _ i _=>x.ps.length-(intOf i).toNat)
 case atStart=>exact⟨0,x.room,-1,by omega,rfl,rfl,rfl,(zu RM).1,(zu RM).2,OK0,W0⟩
 case round=>
  clear W0 OK0 d0 d1
  obtain⟨k,lf,y,hk,rfl,rfl,rfl,y0,y1,HY,HW⟩:=hrel
  by_cases t:k<x.ps.length
  ·have kt:(k:Int)<x.ps.length:=by omega
   have NX:=sumZ_next t
   have LE:=sumZ_le x.ps (k+1)
   have BAD1:=zh (fun a=>okk_bad1 (room:=x.room) t a)
   have BAD2:=zh (fun a b=>okk_bad2 (zu HY) t a b)
   have BAD3:=zh (fun a=>okk_bad3 (zu HY) t a)
   have GO:=zh (fun a b=>okk_next (zu HY) t a b)
   obtain⟨g,ea,lg,e0,e1,e2⟩:=cells_of (zu HW).r t
   have c1:=(zu HW).c1
   have lt:=(zu HW).lt
   generalize (elF x.ps k).1=z0 at *
   generalize (elF x.ps k).2.1=z1 at *
   generalize (elF x.ps k).2.2=z2 at *
   have b1:z1.size+z2.size≤1048576:=by omega
   obtain⟨lg2,hl⟩:∃q,q=lf-((z1.size:Int)+z2.size):=⟨_,rfl⟩
   have a2:wrap64 (lf-((z1.size:Int)+z2.size))=lg2:=by rw[wrap64];omega
   have S3:=zh (fun h:¬lg2<0=>show 0≤lg2∧lg2≤60000 by omega)
   have BAD4:=zh (fun h:lg2<0=>(zu BAD3) (by rw[←hl];exact h))
   rw[←hl] at GO
   clear hl BAD3
   clear NX LE HY
   have IX:=SCom14.ixF x.c ea t
   clear ea c1
   have OB:=zh (one_more wr (.cells #[.int .i64 z0,.string z1,.string z2] 64))
   have F0:(wr.alloc (.cells #[.int .i64 z0,.string z1,.string z2] 64)).cell? ⟨wr.heap.size,0,none⟩=some (.int .i64 z0):=by simp[go_sem]
   have FS:wr.heap.size<(wr.alloc (.cells #[.int .i64 z0,.string z1,.string z2] 64)).heap.size:=by simp
   have F:=zh (And.intro F0 FS)
   clear F0 FS
   go_wp2_with fail
   refine(iSizeF _ z0 z1 z2 b1).mono ?_
   rintro e w2 ⟨rfl,bb⟩
   have f0:=(bb.cell (p:=⟨wr.heap.size,0,none⟩) (zu F).2).trans (zu F).1
   have HW2:=zh (((zu HW).step (zu OB)).step bb)
   clear bb OB F HW e0 e1 e2 IX
   have D:=zh (fun u b h=>iNameB u z0 b h)
   clear b1
   by_cases n1:okN z0=true
   ·have N1:=zh n1
    clear n1
    by_cases n2:z0≤y
    ·obtain rfl:R=false:=by rw[←zu HR];exact decide_eq_false ((zu BAD2) (zu N1) n2)
     clear BAD1 BAD2 BAD4 GO HR
     go_wp2_with fail
     refine(zu D _ true (zu N1)).mono ?_
     rintro e u ⟨rfl,rfl⟩
     go_wp2
     go_ret
     exact⟨rfl,(zu HW2).b⟩
    ·have n2':decide (z0≤y)=false:=decide_eq_false n2
     have GO':=zh ((zu GO) (zu N1) (by omega))
     clear n2 GO BAD1 BAD2
     by_cases n3:lg2<0
     ·obtain rfl:R=false:=by rw[←zu HR];exact decide_eq_false ((zu BAD4) n3)
      clear BAD4 GO' HR
      go_wp2_with fail
      refine(zu D _ true (zu N1)).mono ?_
      rintro e u ⟨rfl,rfl⟩
      go_wp2
      go_ret
      exact⟨rfl,(zu HW2).b⟩
     ·have n3':decide (lg2<0)=false:=decide_eq_false n3
      have S:=zh ((zu S3) (by omega))
      clear n3 BAD4
      go_wp2_with fail
      refine(zu D _ true (zu N1)).mono ?_
      rintro e u ⟨rfl,rfl⟩
      go_wp2
      go_roundw
      case rel=>exact⟨k+1,lg2,z0,by omega,by go_num,rfl,rfl,(zu S).1,(zu S).2,GO',HW2⟩
      case measure=>simp[intOf];omega
   ·have n1':okN z0=false:=by simpa using n1
    obtain rfl:R=false:=by rw[←zu HR];exact decide_eq_false ((zu BAD1) n1')
    have N1:=zh n1'
    clear BAD1 BAD2 BAD4 GO HR n1 n1'
    go_wp2_with fail
    refine(zu D _ false (zu N1)).mono ?_
    rintro e u ⟨rfl,rfl⟩
    go_wp2
    go_ret
    exact⟨rfl,(zu HW2).b⟩
  ·have e:k=x.ps.length:=by omega
   have kt:¬(k:Int)<x.ps.length:=by omega
   obtain rfl:R=true:=by rw[←zu HR];exact decide_eq_true (okk_all (by rw[←e];exact zu HY) (zu RM) y0)
   clear HY HR
   subst e
   go_wp2
   go_ret
   exact⟨rfl,(zu HW).b⟩
end IOk14
end Go.Proofs.YtlbgfdpcgpijhaaGreat
