/- Texts of one proof, one behind the other: IFace13. -/
import Derived.Test.YtagmnociflkhcaaGreatDoorRows
import Derived.Test.YtagmnociflkhcaaGreatDoorCards
import Derived.Test.YtagmnociflkhcaaGreatDoorTie
import Derived.Test.YtagmnociflkhcaaGreatDoorQL0
import Derived.Test.YtagmnociflkhcaaGreatDoorQL44
import Derived.Defers
import Derived.Recover
import Derived.Handy
set_option linter.unusedVariables false
set_option linter.unusedSimpArgs false
open Go.ChangeShapes Go.WideShapes Go.ChangeAt Go.RowKit
set_option maxRecDepth 100000
set_option maxHeartbeats 32000000
namespace Go.Proofs.YtagmnociflkhcaaGreatDoor
namespace IFace13
open BMem Bks BHelp SRead13 VB13 ICl13 IRows13 BMemV13 ITab13 IRead13
open SBytes (AtB getN getF AtBO)
open IInto13
open IBalsFit (one_more)
open SRead13 (row_kept)
variable {oz:Nat}
theorem read_no{xs:List Int}(h:(readB xs).2=false):readB xs=(zeroB,false):=by
 unfold readB at h⊢
 cases hq:readF xs 5 0 zeroB with
 |none=>rfl
 |some pb=>
  obtain⟨p,b⟩:=pb
  rw[hq] at h
  change (endY (getN xs p) xs.length b).2=false at h
  change endY (getN xs p) xs.length b=(zeroB,false)
  by_cases c:(getN xs p).2.2=true∧(getN xs p).2.1=xs.length∧Ok (withLot b (getN xs p).1)
  ·rw[endY_yes c] at h;simp at h
  ·exact endY_no c
abbrev zset(W:World)(a b:Nat):World:=((((((W.setCell ⟨a,0,none⟩ (.slice none 0 0)).setCell ⟨a,1,none⟩ (.slice none 0 0)).setCell ⟨a,2,none⟩ (.slice none 0 0)).setCell ⟨a,3,none⟩ (.slice none 0 0)).setCell ⟨a,4,none⟩ (.slice none 0 0)).setCell ⟨a,5,none⟩ (.int .i64 0)).setCell ⟨b,0,none⟩ (.bool false)
theorem catch_panicking(a b:Nat)(ut:TypeId)(pv:Value)(older:List PanicEntry)(W:World)(base:Nat)(v0 v1 v2 v3 v4 v5:Value)(v:Bool)(hb:Box W base a v0 v1 v2 v3 v4 v5)(hc:W.cell? ⟨b,0,none⟩=some (.bool v))(hf:W.frozen? ⟨b,0,none⟩=false)(hne:a≠b):
  CallsD Tryz.prog 44 #[.pointer (some ⟨a,0,none⟩),.pointer (some ⟨b,0,none⟩)] (.panicking ({v:= .iface ut pv,recovered:=false}::older)) W fun e u' W'=>
   e= .returned (.tuple #[])∧u'= .panicking ({v:= .iface ut pv,recovered:=true}::older)∧W'=zset W a b:=by
 obtain⟨y0,y1,y2,y3,y4,y5,x0,x1,x2,x3,x4,x5⟩:=Box.all hb
 clear hb
 refine callsD_of_wpS Tryz.func44 rfl fun c₀ cs hu=>?_
 apply wpS_seq
 apply wpS_region
 simp[wpOpsS,go_sem,recoverD,hu,Tryz.ntmps44,Exit.thenS]
 refine wpS_cond (t:=true) (by simp[Act.eval,Array.replicate]) ?_
 simp only[if_true]
 apply wpS_region
 simp[wpOpsS,go_sem,bodyPostS,results,Tryz.results44,y0,y1,y2,y3,y4,y5,x0,x1,x2,x3,x4,x5,hc,hf]
theorem catch_idle(a b:Nat)(W:World):
  CallsD Tryz.prog 44 #[.pointer (some ⟨a,0,none⟩),.pointer (some ⟨b,0,none⟩)] .returning W fun e u' W'=>e= .returned (.tuple #[])∧u'= .returning∧W'=W:=by
 refine callsD_of_wpS Tryz.func44 rfl fun c₀ cs hu=>?_
 apply wpS_seq
 apply wpS_region
 simp[wpOpsS,go_sem,recoverD,hu,Tryz.ntmps44,Exit.thenS]
 refine wpS_cond (t:=false) (by simp[Act.eval,Array.replicate]) ?_
 simp only[Bool.false_eq_true,if_false]
 refine wpS_of_wp (wp_skip ?_)
 cases c₀
 simp_all [bodyPostS,results,Tryz.results44]
abbrev BCo:Obj:= .cells #[.bool false] 4
theorem iBooksReadO(w:World)(gl cl:Nat)(xs:List Int)(et:TypeId)(ev:Value)(h20:xs.length≤1048576)(hc:xs.length≤cl)(hg:gl<w.heap.size)(hr:AtBO w gl oz xs)(he:w.cell? ⟨0,0,none⟩=some (.iface et ev)):
  Calls Tryz.prog 24 #[.slice (some ⟨gl,oz,none⟩) xs.length cl] w fun e w'=>∃x:Ix,x.b=(readB xs).1∧e= .returned (.tuple #[.agg #[.slice x.aa x.b.ac.length x.ca,.slice x.ai x.b.ic.length x.ci,.slice x.ab x.b.bs.length x.cb,.slice x.al x.b.ls.length x.cl,.slice x.ats x.b.ts.length x.ct,.int .i64 x.b.lot],.bool (readB xs).2])∧OwV w' w.heap.size x∧Below w.heap.size w w':=by
 have hmf:∀(fn:Fn) (first cap:Array Value) (w:World),(Instr.makeFunc fn first cap).run Tryz.prog w= .ok (.func fn first cap) w:=fun _ _ _ _=>rfl
 have B2:=zh (show Below w.heap.size w ((w.alloc ZC).alloc BCo) from((Below.refl _ _).alloc (Nat.le_refl _) _).alloc (by simp) _)
 have s2:((w.alloc ZC).alloc BCo).heap.size=w.heap.size+2:=by simp
 have RB:=zh (iReadBooks ((w.alloc ZC).alloc BCo) gl cl xs et ev h20 hc (by omega) (hr.below (zu B2) hg) (((zu B2).cell (p:=⟨0,0,none⟩) (show 0<w.heap.size by omega)).trans he))
 have NO:=zh (@read_no xs)
 have BX:=zh (show Box ((w.alloc ZC).alloc BCo) w.heap.size w.heap.size (.slice none 0 0) (.slice none 0 0) (.slice none 0 0) (.slice none 0 0) (.slice none 0 0) (.int .i64 0) from(Box.made (w:=w) (base:=w.heap.size) (g:=w.heap.size) _ _ _ _ _ _ (Nat.le_refl _) rfl).below (al _ _) (by simp))
 have HB:=zh (show((w.alloc ZC).alloc BCo).heap[w.heap.size+1]?=some BCo from by
  have h:=heap_alloc_new (w.alloc ZC) BCo
  rw[World.size_alloc] at h
  exact h)
 clear hr he
 generalize readB xs=fin at *
 obtain⟨f0,f1⟩:=fin
 go_enter_defers Tryz.func24,Tryz.ntmps24
 go_wp2_with fail
 refine(zu RB).mono ?_
 rintro e u (⟨h1,⟨eu,ee,rfl⟩,h3⟩|⟨h1,x,hx,rfl,ho,h3⟩)
 ·have F:=(zu NO) h1
  injection F with F0 F1
  subst F0 F1
  have BU:=zh ((zu BX).below h3 (by rw[s2];omega))
  have hb:u.heap[w.heap.size+1]?=some BCo:=(h3.block _ (by omega)).trans (zu HB)
  have B3:=zh ((zu B2).trans (h3.mono (by omega)))
  clear h1 h3 RB NO
  refine leaves_cons (f:=44) (args:= #[.pointer (some ⟨w.heap.size,0,none⟩),.pointer (some ⟨w.heap.size+1,0,none⟩)]) (by simp) (by simp[go_sem]) ?_
  refine(catch_panicking w.heap.size (w.heap.size+1) eu ee [] u w.heap.size _ _ _ _ _ _ false (zu BU) (cell_heap hb rfl) (by simp[World.frozen?,hb]) (by omega)).mono ?_
  rintro e u' w'' ⟨rfl,rfl,rfl⟩
  have S6:=six (zu BU) (.slice none 0 0) (.slice none 0 0) (.slice none 0 0) (.slice none 0 0) (.slice none 0 0) (.int .i64 0)
  have q:∀i,(zset u w.heap.size (w.heap.size+1)).cell? ⟨w.heap.size,i,none⟩=(((((((u.setCell ⟨w.heap.size,0,none⟩ (.slice none 0 0)).setCell ⟨w.heap.size,1,none⟩ (.slice none 0 0)).setCell ⟨w.heap.size,2,none⟩ (.slice none 0 0)).setCell ⟨w.heap.size,3,none⟩ (.slice none 0 0)).setCell ⟨w.heap.size,4,none⟩ (.slice none 0 0)).setCell ⟨w.heap.size,5,none⟩ (.int .i64 0))).cell? ⟨w.heap.size,i,none⟩:=fun i=>World.cell?_of_block (Below.heap_setCell _ _ _ _ (by simp))
  have p0:=(q 0).trans S6.c0
  have p1:=(q 1).trans S6.c1
  have p2:=(q 2).trans S6.c2
  have p3:=(q 3).trans S6.c3
  have p4:=(q 4).trans S6.c4
  have p5:=(q 5).trans S6.c5
  have pb:(zset u w.heap.size (w.heap.size+1)).cell? ⟨w.heap.size+1,0,none⟩=some (.bool false):=by
   have:=cell_heap (i:=0) hb (rfl:(#[Value.bool false]:Array Value)[0]?=some (.bool false))
   simp[go_sem,zset,this]
  have BZ:=(((zu B3).grown (six_grown (zu BU) (.slice none 0 0) (.slice none 0 0) (.slice none 0 0) (.slice none 0 0) (.slice none 0 0) (.int .i64 0)) (zu B3).size (fun j hj=>by injection hj with hj;omega))).grown (set_grown _ (w.heap.size+1) (.bool false)) (by simpa[World.setCell] using(zu B3).size) (fun j hj=>by injection hj with hj;omega)
  change Below w.heap.size w (zset u w.heap.size (w.heap.size+1)) at BZ
  generalize zset u w.heap.size (w.heap.size+1)=Z at *
  refine⟨.tuple #[.agg #[.slice none 0 0,.slice none 0 0,.slice none 0 0,.slice none 0 0,.slice none 0 0,.int .i64 0],.bool false],by simp[results,Tryz.results24,go_sem,p0,p1,p2,p3,p4,p5,pb],zeroX,rfl,rfl,zero_own _ _,BZ⟩
 ·simp only at h1 hx
  subst h1
  have HX:=zh hx
  have BU:=zh ((zu BX).below h3 (by rw[s2];omega))
  have hb:u.heap[w.heap.size+1]?=some BCo:=(h3.block _ (by omega)).trans (zu HB)
  have B3:=zh ((zu B2).trans (h3.mono (by omega)))
  have HO:=zh ho
  have cb:u.cell? ⟨w.heap.size+1,0,none⟩=some (.bool false):=cell_heap hb rfl
  have fb:u.frozen? ⟨w.heap.size+1,0,none⟩=false:=by simp[World.frozen?,hb]
  obtain⟨y0,y1,y2,y3,y4,y5,x0,x1,x2,x3,x4,x5⟩:=Box.all (zu BU)
  have HB2:=zh hb
  clear h3 RB NO ho hb hx
  go_wp2
  refine leaves_cons (f:=44) (args:= #[.pointer (some ⟨w.heap.size,0,none⟩),.pointer (some ⟨w.heap.size+1,0,none⟩)]) (by simp) (by simp[go_sem]) ?_
  refine(catch_idle w.heap.size (w.heap.size+1) _).mono ?_
  rintro e u' w'' ⟨rfl,rfl,rfl⟩
  have S6:=six (zu BU) (.slice x.aa x.b.ac.length x.ca) (.slice x.ai x.b.ic.length x.ci) (.slice x.ab x.b.bs.length x.cb) (.slice x.al x.b.ls.length x.cl) (.slice x.ats x.b.ts.length x.ct) (.int .i64 x.b.lot)
  have G6:=six_grown (zu BU) (.slice x.aa x.b.ac.length x.ca) (.slice x.ai x.b.ic.length x.ci) (.slice x.ab x.b.bs.length x.cb) (.slice x.al x.b.ls.length x.cl) (.slice x.ats x.b.ts.length x.ct) (.int .i64 x.b.lot)
  have GB:=set_grown ((((((u.setCell ⟨w.heap.size,0,none⟩ (.slice x.aa x.b.ac.length x.ca)).setCell ⟨w.heap.size,1,none⟩ (.slice x.ai x.b.ic.length x.ci)).setCell ⟨w.heap.size,2,none⟩ (.slice x.ab x.b.bs.length x.cb)).setCell ⟨w.heap.size,3,none⟩ (.slice x.al x.b.ls.length x.cl)).setCell ⟨w.heap.size,4,none⟩ (.slice x.ats x.b.ts.length x.ct)).setCell ⟨w.heap.size,5,none⟩ (.int .i64 x.b.lot)) (w.heap.size+1) (.bool true)
  have pb:(((((((u.setCell ⟨w.heap.size,0,none⟩ (.slice x.aa x.b.ac.length x.ca)).setCell ⟨w.heap.size,1,none⟩ (.slice x.ai x.b.ic.length x.ci)).setCell ⟨w.heap.size,2,none⟩ (.slice x.ab x.b.bs.length x.cb)).setCell ⟨w.heap.size,3,none⟩ (.slice x.al x.b.ls.length x.cl)).setCell ⟨w.heap.size,4,none⟩ (.slice x.ats x.b.ts.length x.ct)).setCell ⟨w.heap.size,5,none⟩ (.int .i64 x.b.lot)).setCell ⟨w.heap.size+1,0,none⟩ (.bool true)).cell? ⟨w.heap.size+1,0,none⟩=some (.bool true):=by
   simp[go_sem,cb]
  have T6:=S6.kept GB (by simp)
  have BZ:=((zu B3).grown G6 (zu B3).size (fun j hj=>by injection hj with hj;omega)).grown GB (by simpa[World.setCell] using(zu B3).size) (fun j hj=>by injection hj with hj;omega)
  have p0:=T6.c0
  have p1:=T6.c1
  have p2:=T6.c2
  have p3:=T6.c3
  have p4:=T6.c4
  have p5:=T6.c5
  have O:=zu HO
  have rb:∀{e:TypeId} {m:Nat} {v:Value} {n:Nat} {vs:List Value},u.ownsRow ((w.alloc ZC).alloc BCo).heap.size e m v n vs→_:=fun o=>row_base (row_kept (row_kept o G6 (by omega)) GB (by omega)) (show w.heap.size≤((w.alloc ZC).alloc BCo).heap.size by omega)
  have OZ:OwV _ w.heap.size x:=⟨rb O.oa,rb O.oi,rb O.ob,rb O.ol,rb O.ot⟩
  clear rb S6 G6 GB T6
  generalize ((((((u.setCell ⟨w.heap.size,0,none⟩ (.slice x.aa x.b.ac.length x.ca)).setCell ⟨w.heap.size,1,none⟩ (.slice x.ai x.b.ic.length x.ci)).setCell ⟨w.heap.size,2,none⟩ (.slice x.ab x.b.bs.length x.cb)).setCell ⟨w.heap.size,3,none⟩ (.slice x.al x.b.ls.length x.cl)).setCell ⟨w.heap.size,4,none⟩ (.slice x.ats x.b.ts.length x.ct)).setCell ⟨w.heap.size,5,none⟩ (.int .i64 x.b.lot)).setCell ⟨w.heap.size+1,0,none⟩ (.bool true)=Z at *
  refine⟨.tuple #[.agg #[.slice x.aa x.b.ac.length x.ca,.slice x.ai x.b.ic.length x.ci,.slice x.ab x.b.bs.length x.cb,.slice x.al x.b.ls.length x.cl,.slice x.ats x.b.ts.length x.ct,.int .i64 x.b.lot],.bool true],by simp[results,Tryz.results24,go_sem,p0,p1,p2,p3,p4,p5,pb],x,zu HX,rfl,OZ,BZ⟩
end IFace13
end Go.Proofs.YtagmnociflkhcaaGreatDoor
