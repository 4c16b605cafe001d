/- Texts of one proof, one behind the other: SLoad16. -/
import Derived.Test.YtagmnociflkhcaaGreatDoorRows
import Derived.Test.YtagmnociflkhcaaGreatDoorCards
import Derived.Test.YtagmnociflkhcaaGreatDoorTie
import Derived.Test.YtagmnociflkhcaaGreatDoorQL0
import Derived.Test.YtagmnociflkhcaaGreatDoorQL3
import Derived.Test.YtagmnociflkhcaaGreatDoorQL23
import Derived.Test.YtagmnociflkhcaaGreatDoorQL24
import Derived.Test.YtagmnociflkhcaaGreatDoorQL26
set_option linter.unusedVariables false
set_option linter.unusedSimpArgs false
open Go.ChangeShapes Go.WideShapes Go.ChangeAt Go.RowKit
set_option maxRecDepth 100000
set_option maxHeartbeats 32000000
namespace Go.Proofs.YtagmnociflkhcaaGreatDoor
namespace SLoad16
open Fil14 OpensF14 DiskH14 DkH14 SDk14 SOk14 SRd14 Conv15 SegP15 SSg16 Bx16
open Bks (Bk)
open BHelp (Ix)
open BMemV13 (RdV)
open SBytes (AtB AtBO getN sGetNum)
open SUnseal11 (unsealN sUnseal getN_in piece)
open SRead13 (readB zeroB ReadSaid sBooksReadO)
noncomputable def loadH (hs:List Int):(Int×Bk)×Bool:=if(getN hs 0).2.2=true∧okS (getN hs 0).1=true∧(readB (hs.drop (getN hs 0).2.1.toNat)).2=true then(((getN hs 0).1,(readB (hs.drop (getN hs 0).2.1.toNat)).1),true) else((0,zeroB),false)
noncomputable def loadD (room:Int) (ps:List TF):(Int×Bk)×Bool:=if(readD room ps 21).2=true∧(unsealN (nums (readD room ps 21).1) 0).2.2=0∧(unsealN (nums (readD room ps 21).1) 0).2.1=(nums (readD room ps 21).1).length then loadH (unsealN (nums (readD room ps 21).1) 0).1 else((0,zeroB),false)
def LoadSaid(r:(Int×Bk)×Bool)(w:World)(e:Ending)(w':World):Prop:=∃y:Ix,y.b=r.1.2∧e= .returned (.tuple #[.agg #[.int .i64 r.1.1,.slice y.aa y.b.ac.length y.ca,.slice y.ai y.b.ic.length y.ci,.slice y.ab y.b.bs.length y.cb,.slice y.al y.b.ls.length y.cl,.slice y.ats y.b.ts.length y.ct,.int .i64 y.b.lot],.bool r.2])∧RdV w' y∧Below w.heap.size w w'
theorem LoadSaid.no{w w':World}{e:Ending}(h:e= .returned (.tuple #[.agg #[.int .i64 0,.slice none 0 0,.slice none 0 0,.slice none 0 0,.slice none 0 0,.slice none 0 0,.int .i64 0],.bool false]))(hb:Below w.heap.size w w'):LoadSaid ((0,zeroB),false) w e w':=
 ⟨⟨none,0,none,0,none,0,none,0,none,0,zeroB⟩,rfl,h,⟨fun h=>absurd rfl h,fun g h=>by simp at h,by simp[zeroB],fun h=>absurd rfl h,fun g h=>by simp at h,by simp[zeroB],fun h=>absurd rfl h,fun g h=>by simp at h,by simp[zeroB],fun h=>absurd rfl h,fun g h=>by simp at h,by simp[zeroB],fun h=>absurd rfl h,fun g h=>by simp at h,by simp[zeroB]⟩,hb⟩
theorem un_len(xs:List Int)(p:Int):(unsealN xs p).1.length≤xs.length:=by
 unfold unsealN
 split
 ·simp
 ·split
  ·simp
  ·split
   ·simp[piece];omega
   ·simp
theorem un_in{xs:List Int}(p:Int)(h:∀i,i<xs.length→0≤xs.getD i 0∧xs.getD i 0≤255):∀i,i<(unsealN xs p).1.length→0≤(unsealN xs p).1.getD i 0∧(unsealN xs p).1.getD i 0≤255:=by
 have all:∀x∈xs,0≤x∧x≤255:=fun x hx=>by
  obtain⟨i,hi,rfl⟩:=List.getElem_of_mem hx
  have:=h i hi
  simpa[List.getD,hi] using this
 have mem:∀x∈(unsealN xs p).1,x∈xs:=by
  unfold unsealN
  split
  ·simp
  ·split
   ·simp
   ·split
    ·intro x hx
     exact List.mem_of_mem_drop (List.mem_of_mem_take hx)
    ·simp
 intro i hi
 have:=all _ (mem _ (List.getElem_mem hi))
 simpa[List.getD,hi] using this
theorem rdV_kept{W W':World}{y:Ix}{g:Nat}(h:RdV W y)(k:W.grownBy W' (some g)){t:Option Addr}{n c:Nat}(c1:W.cell? ⟨g,1,none⟩=some (.slice t n c)):RdV W' y:=by
 have q:∀(g0:Nat),g0<W.heap.size→g0≠g→∀o,W'.cell? ⟨g0,o,none⟩=W.cell? ⟨g0,o,none⟩:=fun g0 l ne o=>World.cell?_of_block (w:=W) (k.block g0 l (by simpa using ne))
 have no:∀{v:Int},W.cell? ⟨g,1,none⟩=some (.int .i64 v)→False:=fun e=>by rw[c1] at e;simp at e
 refine⟨h.ea,fun g0 e=>?_,h.na,h.ei,fun g0 e=>?_,h.ni,h.eb,fun g0 e=>?_,h.nb,h.el,fun g0 e=>?_,h.nl,h.et,fun g0 e=>?_,h.nt⟩
 ·obtain⟨l,a⟩:=h.ra g0 e
  refine⟨Nat.lt_of_lt_of_le l k.size,fun i hi=>?_⟩
  have ne:g0≠g:=by rintro rfl;exact no (by simpa using(a 0 (by omega)).2)
  exact⟨(q g0 l ne _).trans (a i hi).1,(q g0 l ne _).trans (a i hi).2⟩
 ·obtain⟨l,a⟩:=h.ri g0 e
  refine⟨Nat.lt_of_lt_of_le l k.size,fun i hi=>?_⟩
  have ne:g0≠g:=by rintro rfl;exact no (by simpa using(a 0 (by omega)).2)
  exact⟨(q g0 l ne _).trans (a i hi).1,(q g0 l ne _).trans (a i hi).2⟩
 ·obtain⟨l,a⟩:=h.rb g0 e
  refine⟨Nat.lt_of_lt_of_le l k.size,fun i hi=>?_⟩
  have ne:g0≠g:=by rintro rfl;exact no (by simpa using(a 0 (by omega)).2.1)
  obtain⟨p0,p1,p2⟩:=a i hi
  exact⟨(q g0 l ne _).trans p0,(q g0 l ne _).trans p1,(q g0 l ne _).trans p2⟩
 ·obtain⟨l,a⟩:=h.rl g0 e
  refine⟨Nat.lt_of_lt_of_le l k.size,fun i hi=>?_⟩
  have ne:g0≠g:=by rintro rfl;exact no (by simpa using(a 0 (by omega)).2.1)
  obtain⟨p0,p1,p2,p3,p4⟩:=a i hi
  exact⟨(q g0 l ne _).trans p0,(q g0 l ne _).trans p1,(q g0 l ne _).trans p2,(q g0 l ne _).trans p3,(q g0 l ne _).trans p4⟩
 ·obtain⟨l,a⟩:=h.rt g0 e
  refine⟨Nat.lt_of_lt_of_le l k.size,fun i hi=>?_⟩
  have ne:g0≠g:=by rintro rfl;exact no (by simpa using(a 0 (by omega)).2.1)
  obtain⟨p0,p1,p2,p3,p4,p5,p6,p7⟩:=a i hi
  exact⟨(q g0 l ne _).trans p0,(q g0 l ne _).trans p1,(q g0 l ne _).trans p2,(q g0 l ne _).trans p3,(q g0 l ne _).trans p4,(q g0 l ne _).trans p5,(q g0 l ne _).trans p6,(q g0 l ne _).trans p7⟩
theorem zfin{w u:World}{a0 a1 a2 a3 a4 a5 a6:Value}(B:Below w.heap.size w u)(K:Bx7 u w.heap.size (w.heap.size+1) a0 a1 a2 a3 a4 a5 a6):
  Below w.heap.size w ((((((((u).setCell ⟨w.heap.size+1,0,none⟩ (.int .i64 0)).setCell ⟨w.heap.size+1,1,none⟩ (.slice none 0 0)).setCell ⟨w.heap.size+1,2,none⟩ (.slice none 0 0)).setCell ⟨w.heap.size+1,3,none⟩ (.slice none 0 0)).setCell ⟨w.heap.size+1,4,none⟩ (.slice none 0 0)).setCell ⟨w.heap.size+1,5,none⟩ (.slice none 0 0)).setCell ⟨w.heap.size+1,6,none⟩ (.int .i64 0))∧Bx7 ((((((((u).setCell ⟨w.heap.size+1,0,none⟩ (.int .i64 0)).setCell ⟨w.heap.size+1,1,none⟩ (.slice none 0 0)).setCell ⟨w.heap.size+1,2,none⟩ (.slice none 0 0)).setCell ⟨w.heap.size+1,3,none⟩ (.slice none 0 0)).setCell ⟨w.heap.size+1,4,none⟩ (.slice none 0 0)).setCell ⟨w.heap.size+1,5,none⟩ (.slice none 0 0)).setCell ⟨w.heap.size+1,6,none⟩ (.int .i64 0)) w.heap.size (w.heap.size+1) (.int .i64 0) (.slice none 0 0) (.slice none 0 0) (.slice none 0 0) (.slice none 0 0) (.slice none 0 0) (.int .i64 0):=by
 have t0:=K.set0 (.int .i64 0)
 have t1:=t0.1.set1 (.slice none 0 0)
 have t2:=t1.1.set2 (.slice none 0 0)
 have t3:=t2.1.set3 (.slice none 0 0)
 have t4:=t3.1.set4 (.slice none 0 0)
 have t5:=t4.1.set5 (.slice none 0 0)
 have t6:=t5.1.set6 (.int .i64 0)
 have G:=(grow_grow (grow_grow (grow_grow (grow_grow (grow_grow (grow_grow t0.2 t1.2) t2.2) t3.2) t4.2) t5.2) t6.2)
 have lt:=K.lt
 exact⟨grow_low B G ⟨by omega,B.size⟩,t6.1⟩
theorem yfin{w u:World}{a0 a1 a2 a3 a4 a5 a6:Value}(B:Below w.heap.size w u)(K:Bx7 u w.heap.size (w.heap.size+1) a0 a1 a2 a3 a4 a5 a6)(f:Int)(y:Ix)(h:RdV u y){t:Option Addr}{n c:Nat}(c1:u.cell? ⟨w.heap.size+1,1,none⟩=some (.slice t n c)):
  Below w.heap.size w ((((((((u).setCell ⟨w.heap.size+1,0,none⟩ (.int .i64 f)).setCell ⟨w.heap.size+1,1,none⟩ (.slice y.aa y.b.ac.length y.ca)).setCell ⟨w.heap.size+1,2,none⟩ (.slice y.ai y.b.ic.length y.ci)).setCell ⟨w.heap.size+1,3,none⟩ (.slice y.ab y.b.bs.length y.cb)).setCell ⟨w.heap.size+1,4,none⟩ (.slice y.al y.b.ls.length y.cl)).setCell ⟨w.heap.size+1,5,none⟩ (.slice y.ats y.b.ts.length y.ct)).setCell ⟨w.heap.size+1,6,none⟩ (.int .i64 y.b.lot))∧Bx7 ((((((((u).setCell ⟨w.heap.size+1,0,none⟩ (.int .i64 f)).setCell ⟨w.heap.size+1,1,none⟩ (.slice y.aa y.b.ac.length y.ca)).setCell ⟨w.heap.size+1,2,none⟩ (.slice y.ai y.b.ic.length y.ci)).setCell ⟨w.heap.size+1,3,none⟩ (.slice y.ab y.b.bs.length y.cb)).setCell ⟨w.heap.size+1,4,none⟩ (.slice y.al y.b.ls.length y.cl)).setCell ⟨w.heap.size+1,5,none⟩ (.slice y.ats y.b.ts.length y.ct)).setCell ⟨w.heap.size+1,6,none⟩ (.int .i64 y.b.lot)) w.heap.size (w.heap.size+1) (.int .i64 f) (.slice y.aa y.b.ac.length y.ca) (.slice y.ai y.b.ic.length y.ci) (.slice y.ab y.b.bs.length y.cb) (.slice y.al y.b.ls.length y.cl) (.slice y.ats y.b.ts.length y.ct) (.int .i64 y.b.lot)∧RdV ((((((((u).setCell ⟨w.heap.size+1,0,none⟩ (.int .i64 f)).setCell ⟨w.heap.size+1,1,none⟩ (.slice y.aa y.b.ac.length y.ca)).setCell ⟨w.heap.size+1,2,none⟩ (.slice y.ai y.b.ic.length y.ci)).setCell ⟨w.heap.size+1,3,none⟩ (.slice y.ab y.b.bs.length y.cb)).setCell ⟨w.heap.size+1,4,none⟩ (.slice y.al y.b.ls.length y.cl)).setCell ⟨w.heap.size+1,5,none⟩ (.slice y.ats y.b.ts.length y.ct)).setCell ⟨w.heap.size+1,6,none⟩ (.int .i64 y.b.lot)) y:=by
 have t0:=K.set0 (.int .i64 f)
 have t1:=t0.1.set1 (.slice y.aa y.b.ac.length y.ca)
 have t2:=t1.1.set2 (.slice y.ai y.b.ic.length y.ci)
 have t3:=t2.1.set3 (.slice y.ab y.b.bs.length y.cb)
 have t4:=t3.1.set4 (.slice y.al y.b.ls.length y.cl)
 have t5:=t4.1.set5 (.slice y.ats y.b.ts.length y.ct)
 have t6:=t5.1.set6 (.int .i64 y.b.lot)
 have G:=(grow_grow (grow_grow (grow_grow (grow_grow (grow_grow (grow_grow t0.2 t1.2) t2.2) t3.2) t4.2) t5.2) t6.2)
 have lt:=K.lt
 exact⟨grow_low B G ⟨by omega,B.size⟩,t6.1,rdV_kept h G c1⟩
theorem rd_size{room:Int}{ps:List TF}{nm:Int}(hz:sumZ ps≤1048576):(readD room ps nm).1.size≤1048576:=by
 unfold readD
 split
 ·rename_i h
  obtain⟨k,e,l,_⟩:=findF_in h.2
  have:=sumZ_next l
  have:=sumZ_le ps (k+1)
  show(bytesAt ps (findF ps nm).toNat).size≤1048576
  rw[e,Int.toNat_natCast]
  unfold bytesAt
  rw[ByteArray.size_append]
  omega
 ·show ByteArray.empty.size≤1048576
  simp
theorem sSaveLoad(w:World)(x:Dx)(hr:RdD w x)(hz:sumZ x.ps≤1048576):
  Calls Tryz.prog 5 #[.agg #[.int .i64 x.room,.slice x.a x.ps.length x.c]] w (LoadSaid (loadD x.room x.ps) w):=by
 have D1:=Wd.made hr 39
 have b2:=one_more (w.alloc (.cells #[.int .i64 x.room,.slice x.a x.ps.length x.c] 39)) (.cells #[.int .i64 0,.slice none 0 0,.slice none 0 0,.slice none 0 0,.slice none 0 0,.slice none 0 0,.int .i64 0] 34)
 have G0:=zh (D1.step b2)
 have K0:=zh (Bx7.made (w:=w.alloc (.cells #[.int .i64 x.room,.slice x.a x.ps.length x.c] 39)) (base:=w.heap.size) (g:=w.heap.size+1) (.int .i64 0) (.slice none 0 0) (.slice none 0 0) (.slice none 0 0) (.slice none 0 0) (.slice none 0 0) (.int .i64 0) (by simp) (by simp))
 have RD:=zh (fun u (h:RdD u x)=>sDiskRead u x 21 h hz)
 have TS:=zh (rd_size (room:=x.room) (nm:=21) hz)
 have RE:=zh (show loadD x.room x.ps=if(readD x.room x.ps 21).2=true∧(unsealN (nums (readD x.room x.ps 21).1) 0).2.2=0∧(unsealN (nums (readD x.room x.ps 21).1) 0).2.1=(nums (readD x.room x.ps 21).1).length then loadH (unsealN (nums (readD x.room x.ps 21).1) 0).1 else((0,zeroB),false) from rfl)
 generalize loadD x.room x.ps=rr at *
 generalize readD x.room x.ps 21=rd at *
 obtain⟨tx,th⟩:=rd
 have c0:=(zu G0).c0
 have c1:=(zu G0).c1
 have lt:=(zu G0).lt
 clear hr D1 b2
 go_enter Tryz.func5,Tryz.ntmps5
 go_wp2_with fail
 generalize ((w.alloc (.cells #[.int .i64 x.room,.slice x.a x.ps.length x.c] 39)).alloc (.cells #[.int .i64 0,.slice none 0 0,.slice none 0 0,.slice none 0 0,.slice none 0 0,.slice none 0 0,.int .i64 0] 34))=W at *
 refine(zu RD _ (zu G0).r).mono ?_
 rintro e u ⟨rfl,b1⟩
 have B1:=zh ((zu G0).b.trans (b1.mono (zu G0).b.size))
 have K1:=zh ((zu K0).below b1 (zu K0).lt.2)
 have us:=b1.size
 have wl:=(zu K0).lt.2
 clear b1 c0 c1 lt RD K0 G0
 cases th with
 |false=>
  have E:=zh (show rr=((0,zeroB),false) by rw[zu RE,if_neg (fun h=>by simp at h)])
  clear RE
  have f0:=(zu K1).free 0
  have q0:=(zu K1).c0
  have f1:=(zu K1).free 1
  have q1:=(zu K1).c1
  have f2:=(zu K1).free 2
  have q2:=(zu K1).c2
  have f3:=(zu K1).free 3
  have q3:=(zu K1).c3
  have f4:=(zu K1).free 4
  have q4:=(zu K1).c4
  have f5:=(zu K1).free 5
  have q5:=(zu K1).c5
  have f6:=(zu K1).free 6
  have q6:=(zu K1).c6
  have FZ:=zh (zfin (zu B1) (zu K1))
  go_wp2
  generalize (((((((u).setCell ⟨w.heap.size+1,0,none⟩ (.int .i64 0)).setCell ⟨w.heap.size+1,1,none⟩ (.slice none 0 0)).setCell ⟨w.heap.size+1,2,none⟩ (.slice none 0 0)).setCell ⟨w.heap.size+1,3,none⟩ (.slice none 0 0)).setCell ⟨w.heap.size+1,4,none⟩ (.slice none 0 0)).setCell ⟨w.heap.size+1,5,none⟩ (.slice none 0 0)).setCell ⟨w.heap.size+1,6,none⟩ (.int .i64 0)=U at *
  clear f0 q0 f1 q1 f2 q2 f3 q3 f4 q4 f5 q5 f6 q6
  have r0:=(zu FZ).2.c0
  have r1:=(zu FZ).2.c1
  have r2:=(zu FZ).2.c2
  have r3:=(zu FZ).2.c3
  have r4:=(zu FZ).2.c4
  have r5:=(zu FZ).2.c5
  have r6:=(zu FZ).2.c6
  refine bodyPost_ret (v:= .tuple #[.agg #[.int .i64 0,.slice none 0 0,.slice none 0 0,.slice none 0 0,.slice none 0 0,.slice none 0 0,.int .i64 0],.bool false]) (by simp[results,Tryz.results5,go_sem,r0,r1,r2,r3,r4,r5,r6]) rfl ?_
  rw[zu E]
  exact .no rfl (zu FZ).1
 |true=>
 have XL:=zh (show(nums tx).length=tx.size from nums_len tx)
 have tl:=zu TS
 obtain⟨cb,W3,hcb,CV,AB,s3,b3⟩:=to_bytes u tx
 have B3:=zh ((zu B1).trans (b3.mono (zu B1).size))
 have K3:=zh ((zu K1).below b3 (zu K1).lt.2)
 have hl:(nums tx).length≤1048576:=by rw[nums_len];exact tl
 have UN:=zh (sUnseal W3 u.heap.size cb (nums tx) 0 hl hcb (by omega) AB)
 have UL:=zh (un_len (nums tx) 0)
 have UI:=zh (un_in (xs:=nums tx) 0 (fun i hi=>(AB i hi).2))
 generalize nums tx=xs at *
 generalize unsealN xs 0=un at *
 obtain⟨hs,uq,uc⟩:=un
 clear b3 AB B1 K1 hcb
 go_wp2_with fail
 refine(zu UN).mono ?_
 rintro e u4 ⟨g4,c4,rfl,o4,b4⟩
 have B4:=zh ((zu B3).trans (b4.mono (zu B3).size))
 have K4:=zh ((zu K3).below b4 (zu K3).lt.2)
 have O4:=zh o4
 have us4:=b4.size
 clear b4 o4 CV UN B3 K3
 by_cases cz:uc=0
 case neg=>
  have E:=zh (show rr=((0,zeroB),false) by rw[zu RE,if_neg (fun h=>cz h.2.1)])
  have cb':(uc !=0)=true:=by simpa using cz
  clear RE cz
  have f0:=(zu K4).free 0
  have q0:=(zu K4).c0
  have f1:=(zu K4).free 1
  have q1:=(zu K4).c1
  have f2:=(zu K4).free 2
  have q2:=(zu K4).c2
  have f3:=(zu K4).free 3
  have q3:=(zu K4).c3
  have f4:=(zu K4).free 4
  have q4:=(zu K4).c4
  have f5:=(zu K4).free 5
  have q5:=(zu K4).c5
  have f6:=(zu K4).free 6
  have q6:=(zu K4).c6
  have FZ:=zh (zfin (zu B4) (zu K4))
  go_wp2
  generalize (((((((u4).setCell ⟨w.heap.size+1,0,none⟩ (.int .i64 0)).setCell ⟨w.heap.size+1,1,none⟩ (.slice none 0 0)).setCell ⟨w.heap.size+1,2,none⟩ (.slice none 0 0)).setCell ⟨w.heap.size+1,3,none⟩ (.slice none 0 0)).setCell ⟨w.heap.size+1,4,none⟩ (.slice none 0 0)).setCell ⟨w.heap.size+1,5,none⟩ (.slice none 0 0)).setCell ⟨w.heap.size+1,6,none⟩ (.int .i64 0)=U at *
  clear f0 q0 f1 q1 f2 q2 f3 q3 f4 q4 f5 q5 f6 q6
  have r0:=(zu FZ).2.c0
  have r1:=(zu FZ).2.c1
  have r2:=(zu FZ).2.c2
  have r3:=(zu FZ).2.c3
  have r4:=(zu FZ).2.c4
  have r5:=(zu FZ).2.c5
  have r6:=(zu FZ).2.c6
  refine bodyPost_ret (v:= .tuple #[.agg #[.int .i64 0,.slice none 0 0,.slice none 0 0,.slice none 0 0,.slice none 0 0,.slice none 0 0,.int .i64 0],.bool false]) (by simp[results,Tryz.results5,go_sem,r0,r1,r2,r3,r4,r5,r6]) rfl ?_
  rw[zu E]
  exact .no rfl (zu FZ).1
 subst cz
 by_cases qz:uq=tx.size
 case neg=>
  have E:=zh (show rr=((0,zeroB),false) by rw[zu RE,if_neg (fun h=>qz (h.2.2.trans (by rw[zu XL])))])
  have qb:(uq !=(tx.size:Int))=true:=by simpa using qz
  clear RE qz
  have f0:=(zu K4).free 0
  have q0:=(zu K4).c0
  have f1:=(zu K4).free 1
  have q1:=(zu K4).c1
  have f2:=(zu K4).free 2
  have q2:=(zu K4).c2
  have f3:=(zu K4).free 3
  have q3:=(zu K4).c3
  have f4:=(zu K4).free 4
  have q4:=(zu K4).c4
  have f5:=(zu K4).free 5
  have q5:=(zu K4).c5
  have f6:=(zu K4).free 6
  have q6:=(zu K4).c6
  have FZ:=zh (zfin (zu B4) (zu K4))
  go_wp2
  generalize (((((((u4).setCell ⟨w.heap.size+1,0,none⟩ (.int .i64 0)).setCell ⟨w.heap.size+1,1,none⟩ (.slice none 0 0)).setCell ⟨w.heap.size+1,2,none⟩ (.slice none 0 0)).setCell ⟨w.heap.size+1,3,none⟩ (.slice none 0 0)).setCell ⟨w.heap.size+1,4,none⟩ (.slice none 0 0)).setCell ⟨w.heap.size+1,5,none⟩ (.slice none 0 0)).setCell ⟨w.heap.size+1,6,none⟩ (.int .i64 0)=U at *
  clear f0 q0 f1 q1 f2 q2 f3 q3 f4 q4 f5 q5 f6 q6
  have r0:=(zu FZ).2.c0
  have r1:=(zu FZ).2.c1
  have r2:=(zu FZ).2.c2
  have r3:=(zu FZ).2.c3
  have r4:=(zu FZ).2.c4
  have r5:=(zu FZ).2.c5
  have r6:=(zu FZ).2.c6
  refine bodyPost_ret (v:= .tuple #[.agg #[.int .i64 0,.slice none 0 0,.slice none 0 0,.slice none 0 0,.slice none 0 0,.slice none 0 0,.int .i64 0],.bool false]) (by simp[results,Tryz.results5,go_sem,r0,r1,r2,r3,r4,r5,r6]) rfl ?_
  rw[zu E]
  exact .no rfl (zu FZ).1
 subst qz
 have RH:=zh (show rr=loadH hs by rw[zu RE,if_pos ⟨by trivial,by trivial,by rw[zu XL]⟩])
 have hl2:hs.length≤1048576:=by
  have:=zu UL
  try simp only at this
  omega
 have AH:=zh (show AtB u4 g4 hs from fun i hi=>⟨(zu O4).at i hi,(zu UI) i hi⟩)
 have GN:=zh (sGetNum u4 g4 c4 hs 0 hl2 (zu AH))
 have GI:=zh (getN_in hs 0)
 have LH:=zh (show loadH hs=if(getN hs 0).2.2=true∧okS (getN hs 0).1=true∧(readB (hs.drop (getN hs 0).2.1.toNat)).2=true then(((getN hs 0).1,(readB (hs.drop (getN hs 0).2.1.toNat)).1),true) else((0,zeroB),false) from rfl)
 generalize getN hs 0=gn at *
 obtain⟨f,fq,fb⟩:=gn
 clear RE UL UI TS
 go_wp2_with fail
 refine(zu GN).mono ?_
 rintro e u4 ⟨rfl,rfl⟩
 clear GN
 cases fb with
 |false=>
  have E:=zh (show rr=((0,zeroB),false) by rw[zu RH,zu LH,if_neg (fun h=>by simp at h)])
  clear RH LH
  have f0:=(zu K4).free 0
  have q0:=(zu K4).c0
  have f1:=(zu K4).free 1
  have q1:=(zu K4).c1
  have f2:=(zu K4).free 2
  have q2:=(zu K4).c2
  have f3:=(zu K4).free 3
  have q3:=(zu K4).c3
  have f4:=(zu K4).free 4
  have q4:=(zu K4).c4
  have f5:=(zu K4).free 5
  have q5:=(zu K4).c5
  have f6:=(zu K4).free 6
  have q6:=(zu K4).c6
  have FZ:=zh (zfin (zu B4) (zu K4))
  go_wp2
  generalize (((((((u4).setCell ⟨w.heap.size+1,0,none⟩ (.int .i64 0)).setCell ⟨w.heap.size+1,1,none⟩ (.slice none 0 0)).setCell ⟨w.heap.size+1,2,none⟩ (.slice none 0 0)).setCell ⟨w.heap.size+1,3,none⟩ (.slice none 0 0)).setCell ⟨w.heap.size+1,4,none⟩ (.slice none 0 0)).setCell ⟨w.heap.size+1,5,none⟩ (.slice none 0 0)).setCell ⟨w.heap.size+1,6,none⟩ (.int .i64 0)=U at *
  clear f0 q0 f1 q1 f2 q2 f3 q3 f4 q4 f5 q5 f6 q6
  have r0:=(zu FZ).2.c0
  have r1:=(zu FZ).2.c1
  have r2:=(zu FZ).2.c2
  have r3:=(zu FZ).2.c3
  have r4:=(zu FZ).2.c4
  have r5:=(zu FZ).2.c5
  have r6:=(zu FZ).2.c6
  refine bodyPost_ret (v:= .tuple #[.agg #[.int .i64 0,.slice none 0 0,.slice none 0 0,.slice none 0 0,.slice none 0 0,.slice none 0 0,.int .i64 0],.bool false]) (by simp[results,Tryz.results5,go_sem,r0,r1,r2,r3,r4,r5,r6]) rfl ?_
  rw[zu E]
  exact .no rfl (zu FZ).1
 |true=>
 cases sk:okS f with
 |false=>
  have E:=zh (show rr=((0,zeroB),false) by rw[zu RH,zu LH,if_neg (fun h=>by rw[sk] at h;simp at h)])
  have SK:=zh sk
  clear RH LH sk
  go_wp2_with fail
  refine(sSegOk _ f false (zu SK)).mono ?_
  rintro e u4 ⟨rfl,rfl⟩
  have f0:=(zu K4).free 0
  have q0:=(zu K4).c0
  have f1:=(zu K4).free 1
  have q1:=(zu K4).c1
  have f2:=(zu K4).free 2
  have q2:=(zu K4).c2
  have f3:=(zu K4).free 3
  have q3:=(zu K4).c3
  have f4:=(zu K4).free 4
  have q4:=(zu K4).c4
  have f5:=(zu K4).free 5
  have q5:=(zu K4).c5
  have f6:=(zu K4).free 6
  have q6:=(zu K4).c6
  have FZ:=zh (zfin (zu B4) (zu K4))
  go_wp2
  generalize (((((((u4).setCell ⟨w.heap.size+1,0,none⟩ (.int .i64 0)).setCell ⟨w.heap.size+1,1,none⟩ (.slice none 0 0)).setCell ⟨w.heap.size+1,2,none⟩ (.slice none 0 0)).setCell ⟨w.heap.size+1,3,none⟩ (.slice none 0 0)).setCell ⟨w.heap.size+1,4,none⟩ (.slice none 0 0)).setCell ⟨w.heap.size+1,5,none⟩ (.slice none 0 0)).setCell ⟨w.heap.size+1,6,none⟩ (.int .i64 0)=U at *
  clear f0 q0 f1 q1 f2 q2 f3 q3 f4 q4 f5 q5 f6 q6
  have r0:=(zu FZ).2.c0
  have r1:=(zu FZ).2.c1
  have r2:=(zu FZ).2.c2
  have r3:=(zu FZ).2.c3
  have r4:=(zu FZ).2.c4
  have r5:=(zu FZ).2.c5
  have r6:=(zu FZ).2.c6
  refine bodyPost_ret (v:= .tuple #[.agg #[.int .i64 0,.slice none 0 0,.slice none 0 0,.slice none 0 0,.slice none 0 0,.slice none 0 0,.int .i64 0],.bool false]) (by simp[results,Tryz.results5,go_sem,r0,r1,r2,r3,r4,r5,r6]) rfl ?_
  rw[zu E]
  exact .no rfl (zu FZ).1
 |true=>
 have SK:=zh sk
 obtain⟨f0',q0',q1'⟩:=(zu GI) rfl
 try simp only at f0' q0' q1'
 obtain⟨k,rfl⟩:∃k:Nat,fq=k:=⟨fq.toNat,by omega⟩
 have kl:k≤hs.length:=by omega
 have hc4:hs.length≤c4:=by
  rcases(zu O4).2 with⟨h1,_⟩|⟨g',c',cur,h1,_,_,h4,_⟩
  ·simp at h1
  ·obtain⟨_,e⟩:g4=g'∧c4=c':=by simpa using h1
   omega
 have SR:=zh (show ∀o cc,(o=k∨hs.length=k)→Calls Tryz.prog 18 #[.slice (some ⟨g4,o,none⟩) (hs.length-k) cc] u4 (ReadSaid (readB (hs.drop k)) u4) from fun o cc ho=>by
  have:=sBooksReadO (oz:=o) u4 g4 cc (hs.drop k) (by simp;omega) (zu O4).lt.2 (fun i hi=>by
   have hi':k+i<hs.length:=by simp at hi;omega
   have ok':o=k:=by omega
   have e:(hs.drop k).getD i 0=hs.getD (k+i) 0:=by simp[List.getD,List.getElem?_drop]
   rw[e,ok']
   exact(zu AH) (k+i) hi')
  rw[List.length_drop] at this
  exact this)
 have RL:=zh (show rr=if(readB (hs.drop k)).2=true then((f,(readB (hs.drop k)).1),true) else((0,zeroB),false) by
  rw[zu RH,zu LH]
  have e:((k:Int)).toNat=k:=by omega
  simp only[e]
  by_cases q:(readB (hs.drop k)).2=true
  ·rw[if_pos ⟨by trivial,sk,q⟩,if_pos q]
  ·rw[if_neg (fun h=>q h.2.2),if_neg q])
 have k0:¬((k:Int)<0):=by omega
 have k1:(k:Int)≤hs.length:=by omega
 generalize readB (hs.drop k)=rb at *
 obtain⟨bb,good⟩:=rb
 have AHk:=AH
 clear RH LH GI q0' q1' f0' sk
 go_wp2_with fail
 refine(sSegOk _ f true (zu SK)).mono ?_
 rintro e u4 ⟨rfl,rfl⟩
 go_wp2_with fail
 all_goals
  refine(zu SR _ _ (by omega)).mono ?_
  rintro e u5 ⟨y,hy,rfl,ry,b5⟩
  have B5:=zh ((zu B4).trans (b5.mono (zu B4).size))
  have K5:=zh ((zu K4).below b5 (zu K4).lt.2)
  have bx:=one_more u5 (.cells #[.slice y.aa y.b.ac.length y.ca,.slice y.ai y.b.ic.length y.ci,.slice y.ab y.b.bs.length y.cb,.slice y.al y.b.ls.length y.cl,.slice y.ats y.b.ts.length y.ct,.int .i64 y.b.lot] 32)
  have B6:=zh ((zu B5).trans (bx.mono (zu B5).size))
  have K6:=zh ((zu K5).below bx (zu K5).lt.2)
  have R6:=zh (ry.below bx)
  have HY:=zh hy
  have y0:(u5.alloc (.cells #[.slice y.aa y.b.ac.length y.ca,.slice y.ai y.b.ic.length y.ci,.slice y.ab y.b.bs.length y.cb,.slice y.al y.b.ls.length y.cl,.slice y.ats y.b.ts.length y.ct,.int .i64 y.b.lot] 32)).cell? ⟨u5.heap.size,0,none⟩=some (.slice y.aa y.b.ac.length y.ca):=by simp
  have us5:=b5.size
  clear b5 bx ry hy B4 K4 SR AH O4 B5 K5 y0
  cases good with
  |false=>
   have E:=zh (show rr=((0,zeroB),false) by rw[zu RL,if_neg (by simp)])
   clear RL
   have f0:=(zu K6).free 0
   have q0:=(zu K6).c0
   have f1:=(zu K6).free 1
   have q1:=(zu K6).c1
   have f2:=(zu K6).free 2
   have q2:=(zu K6).c2
   have f3:=(zu K6).free 3
   have q3:=(zu K6).c3
   have f4:=(zu K6).free 4
   have q4:=(zu K6).c4
   have f5:=(zu K6).free 5
   have q5:=(zu K6).c5
   have f6:=(zu K6).free 6
   have q6:=(zu K6).c6
   have FZ:=zh (zfin (zu B6) (zu K6))
   go_wp2
   generalize ((((((((u5.alloc (.cells #[.slice y.aa y.b.ac.length y.ca,.slice y.ai y.b.ic.length y.ci,.slice y.ab y.b.bs.length y.cb,.slice y.al y.b.ls.length y.cl,.slice y.ats y.b.ts.length y.ct,.int .i64 y.b.lot] 32))).setCell ⟨w.heap.size+1,0,none⟩ (.int .i64 0)).setCell ⟨w.heap.size+1,1,none⟩ (.slice none 0 0)).setCell ⟨w.heap.size+1,2,none⟩ (.slice none 0 0)).setCell ⟨w.heap.size+1,3,none⟩ (.slice none 0 0)).setCell ⟨w.heap.size+1,4,none⟩ (.slice none 0 0)).setCell ⟨w.heap.size+1,5,none⟩ (.slice none 0 0)).setCell ⟨w.heap.size+1,6,none⟩ (.int .i64 0)=U at *
   clear f0 q0 f1 q1 f2 q2 f3 q3 f4 q4 f5 q5 f6 q6
   have r0:=(zu FZ).2.c0
   have r1:=(zu FZ).2.c1
   have r2:=(zu FZ).2.c2
   have r3:=(zu FZ).2.c3
   have r4:=(zu FZ).2.c4
   have r5:=(zu FZ).2.c5
   have r6:=(zu FZ).2.c6
   refine bodyPost_ret (v:= .tuple #[.agg #[.int .i64 0,.slice none 0 0,.slice none 0 0,.slice none 0 0,.slice none 0 0,.slice none 0 0,.int .i64 0],.bool false]) (by simp[results,Tryz.results5,go_sem,r0,r1,r2,r3,r4,r5,r6]) rfl ?_
   rw[zu E]
   exact .no rfl (zu FZ).1
  |true=>
   have E:=zh (show rr=((f,bb),true) by rw[zu RL,if_pos rfl])
   clear RL
   have f0:=(zu K6).free 0
   have q0:=(zu K6).c0
   have f1:=(zu K6).free 1
   have q1:=(zu K6).c1
   have f2:=(zu K6).free 2
   have q2:=(zu K6).c2
   have f3:=(zu K6).free 3
   have q3:=(zu K6).c3
   have f4:=(zu K6).free 4
   have q4:=(zu K6).c4
   have f5:=(zu K6).free 5
   have q5:=(zu K6).c5
   have f6:=(zu K6).free 6
   have q6:=(zu K6).c6
   have FZ:=zh (yfin (zu B6) (zu K6) f y (zu R6) (zu K6).c1)
   go_wp2
   generalize ((((((((u5.alloc (.cells #[.slice y.aa y.b.ac.length y.ca,.slice y.ai y.b.ic.length y.ci,.slice y.ab y.b.bs.length y.cb,.slice y.al y.b.ls.length y.cl,.slice y.ats y.b.ts.length y.ct,.int .i64 y.b.lot] 32))).setCell ⟨w.heap.size+1,0,none⟩ (.int .i64 f)).setCell ⟨w.heap.size+1,1,none⟩ (.slice y.aa y.b.ac.length y.ca)).setCell ⟨w.heap.size+1,2,none⟩ (.slice y.ai y.b.ic.length y.ci)).setCell ⟨w.heap.size+1,3,none⟩ (.slice y.ab y.b.bs.length y.cb)).setCell ⟨w.heap.size+1,4,none⟩ (.slice y.al y.b.ls.length y.cl)).setCell ⟨w.heap.size+1,5,none⟩ (.slice y.ats y.b.ts.length y.ct)).setCell ⟨w.heap.size+1,6,none⟩ (.int .i64 y.b.lot)=U at *
   clear f0 q0 f1 q1 f2 q2 f3 q3 f4 q4 f5 q5 f6 q6
   have r0:=(zu FZ).2.1.c0
   have r1:=(zu FZ).2.1.c1
   have r2:=(zu FZ).2.1.c2
   have r3:=(zu FZ).2.1.c3
   have r4:=(zu FZ).2.1.c4
   have r5:=(zu FZ).2.1.c5
   have r6:=(zu FZ).2.1.c6
   refine bodyPost_ret (v:= .tuple #[.agg #[.int .i64 f,.slice y.aa y.b.ac.length y.ca,.slice y.ai y.b.ic.length y.ci,.slice y.ab y.b.bs.length y.cb,.slice y.al y.b.ls.length y.cl,.slice y.ats y.b.ts.length y.ct,.int .i64 y.b.lot],.bool true]) (by simp[results,Tryz.results5,go_sem,r0,r1,r2,r3,r4,r5,r6]) rfl ?_
   rw[zu E]
   exact⟨y,zu HY,rfl,(zu FZ).2.2,(zu FZ).1⟩
end SLoad16
end Go.Proofs.YtagmnociflkhcaaGreatDoor
