/- Texts of one proof, one behind the other: SLoad16, IFile14, IOk14, TabF14, ITb14, SPut14, Pure14, PTab14, ICom14, IRd14, IRd11, ICheck11, ISum11, EqS11, StepB11, IUnseal11, IGet11, VOI, IGets11, Errs, IInto13, ICl13, IRows13, Legs, BalApp. -/
import Derived.Test.YtagmnociflkhcaaGreatDoorRows
import Derived.Test.YtagmnociflkhcaaGreatDoorCards
import Derived.Test.YtagmnociflkhcaaGreatDoorTie
import Derived.Test.YtagmnociflkhcaaGreatDoorPLG1
import Derived.Test.YtagmnociflkhcaaGreatDoorPLG2
import Derived.Test.YtagmnociflkhcaaGreatDoorPLG3
import Derived.Maps.OwnSet
import Derived.Deep.RegionHeld3
import Derived.Lib.EndianBits
import Derived.Handy
import Derived.ChangeKeysEq
import Derived.Laws.Cover3
import Derived.WalkKit
import Derived.LaidEql
import Derived.Stop.Asserts
import Derived.RowKitTokens
import Derived.WalkLawsBesides
import Derived.Maps.AppendAt
set_option linter.unusedVariables false
set_option linter.unusedSimpArgs false
open Go.ChangeShapes Go.WideShapes Go.ChangeAt Go.RowKit
set_option maxRecDepth 100000
set_option maxHeartbeats 32000000
namespace Go.Proofs.YtagmnociflkhcaaGreatDoor
namespace SLoad16
open Fil14 OpensF14 DiskH14 DkH14 SDk14 SOk14 SRd14 Conv15 SegP15 SSg16 Bx16
open Bks (Bk)
open BHelp (Ix)
open BMemV13 (RdV)
open SBytes (AtB AtBO getN sGetNum)
open SUnseal11 (unsealN sUnseal getN_in piece)
open SRead13 (readB zeroB ReadSaid sBooksReadO)
noncomputable def loadH (hs:List Int):(Int×Bk)×Bool:=if(getN hs 0).2.2=true∧okS (getN hs 0).1=true∧(readB (hs.drop (getN hs 0).2.1.toNat)).2=true then(((getN hs 0).1,(readB (hs.drop (getN hs 0).2.1.toNat)).1),true) else((0,zeroB),false)
noncomputable def loadD (room:Int) (ps:List TF):(Int×Bk)×Bool:=if(readD room ps 21).2=true∧(unsealN (nums (readD room ps 21).1) 0).2.2=0∧(unsealN (nums (readD room ps 21).1) 0).2.1=(nums (readD room ps 21).1).length then loadH (unsealN (nums (readD room ps 21).1) 0).1 else((0,zeroB),false)
def LoadSaid(r:(Int×Bk)×Bool)(w:World)(e:Ending)(w':World):Prop:=∃y:Ix,y.b=r.1.2∧e= .returned (.tuple #[.agg #[.int .i64 r.1.1,.slice y.aa y.b.ac.length y.ca,.slice y.ai y.b.ic.length y.ci,.slice y.ab y.b.bs.length y.cb,.slice y.al y.b.ls.length y.cl,.slice y.ats y.b.ts.length y.ct,.int .i64 y.b.lot],.bool r.2])∧RdV w' y∧Below w.heap.size w w'
theorem LoadSaid.no{w w':World}{e:Ending}(h:e= .returned (.tuple #[.agg #[.int .i64 0,.slice none 0 0,.slice none 0 0,.slice none 0 0,.slice none 0 0,.slice none 0 0,.int .i64 0],.bool false]))(hb:Below w.heap.size w w'):LoadSaid ((0,zeroB),false) w e w':=
 ⟨⟨none,0,none,0,none,0,none,0,none,0,zeroB⟩,rfl,h,⟨fun h=>absurd rfl h,fun g h=>by simp at h,by simp[zeroB],fun h=>absurd rfl h,fun g h=>by simp at h,by simp[zeroB],fun h=>absurd rfl h,fun g h=>by simp at h,by simp[zeroB],fun h=>absurd rfl h,fun g h=>by simp at h,by simp[zeroB],fun h=>absurd rfl h,fun g h=>by simp at h,by simp[zeroB]⟩,hb⟩
theorem un_len(xs:List Int)(p:Int):(unsealN xs p).1.length≤xs.length:=by
 unfold unsealN
 split
 ·simp
 ·split
  ·simp
  ·split
   ·simp[piece];omega
   ·simp
theorem un_in{xs:List Int}(p:Int)(h:∀i,i<xs.length→0≤xs.getD i 0∧xs.getD i 0≤255):∀i,i<(unsealN xs p).1.length→0≤(unsealN xs p).1.getD i 0∧(unsealN xs p).1.getD i 0≤255:=by
 have all:∀x∈xs,0≤x∧x≤255:=fun x hx=>by
  obtain⟨i,hi,rfl⟩:=List.getElem_of_mem hx
  have:=h i hi
  simpa[List.getD,hi] using this
 have mem:∀x∈(unsealN xs p).1,x∈xs:=by
  unfold unsealN
  split
  ·simp
  ·split
   ·simp
   ·split
    ·intro x hx
     exact List.mem_of_mem_drop (List.mem_of_mem_take hx)
    ·simp
 intro i hi
 have:=all _ (mem _ (List.getElem_mem hi))
 simpa[List.getD,hi] using this
theorem rdV_kept{W W':World}{y:Ix}{g:Nat}(h:RdV W y)(k:W.grownBy W' (some g)){t:Option Addr}{n c:Nat}(c1:W.cell? ⟨g,1,none⟩=some (.slice t n c)):RdV W' y:=by
 have q:∀(g0:Nat),g0<W.heap.size→g0≠g→∀o,W'.cell? ⟨g0,o,none⟩=W.cell? ⟨g0,o,none⟩:=fun g0 l ne o=>World.cell?_of_block (w:=W) (k.block g0 l (by simpa using ne))
 have no:∀{v:Int},W.cell? ⟨g,1,none⟩=some (.int .i64 v)→False:=fun e=>by rw[c1] at e;simp at e
 refine⟨h.ea,fun g0 e=>?_,h.na,h.ei,fun g0 e=>?_,h.ni,h.eb,fun g0 e=>?_,h.nb,h.el,fun g0 e=>?_,h.nl,h.et,fun g0 e=>?_,h.nt⟩
 ·obtain⟨l,a⟩:=h.ra g0 e
  refine⟨Nat.lt_of_lt_of_le l k.size,fun i hi=>?_⟩
  have ne:g0≠g:=by rintro rfl;exact no (by simpa using(a 0 (by omega)).2)
  exact⟨(q g0 l ne _).trans (a i hi).1,(q g0 l ne _).trans (a i hi).2⟩
 ·obtain⟨l,a⟩:=h.ri g0 e
  refine⟨Nat.lt_of_lt_of_le l k.size,fun i hi=>?_⟩
  have ne:g0≠g:=by rintro rfl;exact no (by simpa using(a 0 (by omega)).2)
  exact⟨(q g0 l ne _).trans (a i hi).1,(q g0 l ne _).trans (a i hi).2⟩
 ·obtain⟨l,a⟩:=h.rb g0 e
  refine⟨Nat.lt_of_lt_of_le l k.size,fun i hi=>?_⟩
  have ne:g0≠g:=by rintro rfl;exact no (by simpa using(a 0 (by omega)).2.1)
  obtain⟨p0,p1,p2⟩:=a i hi
  exact⟨(q g0 l ne _).trans p0,(q g0 l ne _).trans p1,(q g0 l ne _).trans p2⟩
 ·obtain⟨l,a⟩:=h.rl g0 e
  refine⟨Nat.lt_of_lt_of_le l k.size,fun i hi=>?_⟩
  have ne:g0≠g:=by rintro rfl;exact no (by simpa using(a 0 (by omega)).2.1)
  obtain⟨p0,p1,p2,p3,p4⟩:=a i hi
  exact⟨(q g0 l ne _).trans p0,(q g0 l ne _).trans p1,(q g0 l ne _).trans p2,(q g0 l ne _).trans p3,(q g0 l ne _).trans p4⟩
 ·obtain⟨l,a⟩:=h.rt g0 e
  refine⟨Nat.lt_of_lt_of_le l k.size,fun i hi=>?_⟩
  have ne:g0≠g:=by rintro rfl;exact no (by simpa using(a 0 (by omega)).2.1)
  obtain⟨p0,p1,p2,p3,p4,p5,p6,p7⟩:=a i hi
  exact⟨(q g0 l ne _).trans p0,(q g0 l ne _).trans p1,(q g0 l ne _).trans p2,(q g0 l ne _).trans p3,(q g0 l ne _).trans p4,(q g0 l ne _).trans p5,(q g0 l ne _).trans p6,(q g0 l ne _).trans p7⟩
theorem zfin{w u:World}{a0 a1 a2 a3 a4 a5 a6:Value}(B:Below w.heap.size w u)(K:Bx7 u w.heap.size (w.heap.size+1) a0 a1 a2 a3 a4 a5 a6):
  Below w.heap.size w ((((((((u).setCell ⟨w.heap.size+1,0,none⟩ (.int .i64 0)).setCell ⟨w.heap.size+1,1,none⟩ (.slice none 0 0)).setCell ⟨w.heap.size+1,2,none⟩ (.slice none 0 0)).setCell ⟨w.heap.size+1,3,none⟩ (.slice none 0 0)).setCell ⟨w.heap.size+1,4,none⟩ (.slice none 0 0)).setCell ⟨w.heap.size+1,5,none⟩ (.slice none 0 0)).setCell ⟨w.heap.size+1,6,none⟩ (.int .i64 0))∧Bx7 ((((((((u).setCell ⟨w.heap.size+1,0,none⟩ (.int .i64 0)).setCell ⟨w.heap.size+1,1,none⟩ (.slice none 0 0)).setCell ⟨w.heap.size+1,2,none⟩ (.slice none 0 0)).setCell ⟨w.heap.size+1,3,none⟩ (.slice none 0 0)).setCell ⟨w.heap.size+1,4,none⟩ (.slice none 0 0)).setCell ⟨w.heap.size+1,5,none⟩ (.slice none 0 0)).setCell ⟨w.heap.size+1,6,none⟩ (.int .i64 0)) w.heap.size (w.heap.size+1) (.int .i64 0) (.slice none 0 0) (.slice none 0 0) (.slice none 0 0) (.slice none 0 0) (.slice none 0 0) (.int .i64 0):=by
 have t0:=K.set0 (.int .i64 0)
 have t1:=t0.1.set1 (.slice none 0 0)
 have t2:=t1.1.set2 (.slice none 0 0)
 have t3:=t2.1.set3 (.slice none 0 0)
 have t4:=t3.1.set4 (.slice none 0 0)
 have t5:=t4.1.set5 (.slice none 0 0)
 have t6:=t5.1.set6 (.int .i64 0)
 have G:=(grow_grow (grow_grow (grow_grow (grow_grow (grow_grow (grow_grow t0.2 t1.2) t2.2) t3.2) t4.2) t5.2) t6.2)
 have lt:=K.lt
 exact⟨grow_low B G ⟨by omega,B.size⟩,t6.1⟩
theorem yfin{w u:World}{a0 a1 a2 a3 a4 a5 a6:Value}(B:Below w.heap.size w u)(K:Bx7 u w.heap.size (w.heap.size+1) a0 a1 a2 a3 a4 a5 a6)(f:Int)(y:Ix)(h:RdV u y){t:Option Addr}{n c:Nat}(c1:u.cell? ⟨w.heap.size+1,1,none⟩=some (.slice t n c)):
  Below w.heap.size w ((((((((u).setCell ⟨w.heap.size+1,0,none⟩ (.int .i64 f)).setCell ⟨w.heap.size+1,1,none⟩ (.slice y.aa y.b.ac.length y.ca)).setCell ⟨w.heap.size+1,2,none⟩ (.slice y.ai y.b.ic.length y.ci)).setCell ⟨w.heap.size+1,3,none⟩ (.slice y.ab y.b.bs.length y.cb)).setCell ⟨w.heap.size+1,4,none⟩ (.slice y.al y.b.ls.length y.cl)).setCell ⟨w.heap.size+1,5,none⟩ (.slice y.ats y.b.ts.length y.ct)).setCell ⟨w.heap.size+1,6,none⟩ (.int .i64 y.b.lot))∧Bx7 ((((((((u).setCell ⟨w.heap.size+1,0,none⟩ (.int .i64 f)).setCell ⟨w.heap.size+1,1,none⟩ (.slice y.aa y.b.ac.length y.ca)).setCell ⟨w.heap.size+1,2,none⟩ (.slice y.ai y.b.ic.length y.ci)).setCell ⟨w.heap.size+1,3,none⟩ (.slice y.ab y.b.bs.length y.cb)).setCell ⟨w.heap.size+1,4,none⟩ (.slice y.al y.b.ls.length y.cl)).setCell ⟨w.heap.size+1,5,none⟩ (.slice y.ats y.b.ts.length y.ct)).setCell ⟨w.heap.size+1,6,none⟩ (.int .i64 y.b.lot)) w.heap.size (w.heap.size+1) (.int .i64 f) (.slice y.aa y.b.ac.length y.ca) (.slice y.ai y.b.ic.length y.ci) (.slice y.ab y.b.bs.length y.cb) (.slice y.al y.b.ls.length y.cl) (.slice y.ats y.b.ts.length y.ct) (.int .i64 y.b.lot)∧RdV ((((((((u).setCell ⟨w.heap.size+1,0,none⟩ (.int .i64 f)).setCell ⟨w.heap.size+1,1,none⟩ (.slice y.aa y.b.ac.length y.ca)).setCell ⟨w.heap.size+1,2,none⟩ (.slice y.ai y.b.ic.length y.ci)).setCell ⟨w.heap.size+1,3,none⟩ (.slice y.ab y.b.bs.length y.cb)).setCell ⟨w.heap.size+1,4,none⟩ (.slice y.al y.b.ls.length y.cl)).setCell ⟨w.heap.size+1,5,none⟩ (.slice y.ats y.b.ts.length y.ct)).setCell ⟨w.heap.size+1,6,none⟩ (.int .i64 y.b.lot)) y:=by
 have t0:=K.set0 (.int .i64 f)
 have t1:=t0.1.set1 (.slice y.aa y.b.ac.length y.ca)
 have t2:=t1.1.set2 (.slice y.ai y.b.ic.length y.ci)
 have t3:=t2.1.set3 (.slice y.ab y.b.bs.length y.cb)
 have t4:=t3.1.set4 (.slice y.al y.b.ls.length y.cl)
 have t5:=t4.1.set5 (.slice y.ats y.b.ts.length y.ct)
 have t6:=t5.1.set6 (.int .i64 y.b.lot)
 have G:=(grow_grow (grow_grow (grow_grow (grow_grow (grow_grow (grow_grow t0.2 t1.2) t2.2) t3.2) t4.2) t5.2) t6.2)
 have lt:=K.lt
 exact⟨grow_low B G ⟨by omega,B.size⟩,t6.1,rdV_kept h G c1⟩
theorem rd_size{room:Int}{ps:List TF}{nm:Int}(hz:sumZ ps≤1048576):(readD room ps nm).1.size≤1048576:=by
 unfold readD
 split
 ·rename_i h
  obtain⟨k,e,l,_⟩:=findF_in h.2
  have:=sumZ_next l
  have:=sumZ_le ps (k+1)
  show(bytesAt ps (findF ps nm).toNat).size≤1048576
  rw[e,Int.toNat_natCast]
  unfold bytesAt
  rw[ByteArray.size_append]
  omega
 ·show ByteArray.empty.size≤1048576
  simp
theorem sSaveLoad(w:World)(x:Dx)(hr:RdD w x)(hz:sumZ x.ps≤1048576):
  Calls Tryz.prog 5 #[.agg #[.int .i64 x.room,.slice x.a x.ps.length x.c]] w (LoadSaid (loadD x.room x.ps) w):=by
 have D1:=Wd.made hr 39
 have b2:=one_more (w.alloc (.cells #[.int .i64 x.room,.slice x.a x.ps.length x.c] 39)) (.cells #[.int .i64 0,.slice none 0 0,.slice none 0 0,.slice none 0 0,.slice none 0 0,.slice none 0 0,.int .i64 0] 34)
 have G0:=zh (D1.step b2)
 have K0:=zh (Bx7.made (w:=w.alloc (.cells #[.int .i64 x.room,.slice x.a x.ps.length x.c] 39)) (base:=w.heap.size) (g:=w.heap.size+1) (.int .i64 0) (.slice none 0 0) (.slice none 0 0) (.slice none 0 0) (.slice none 0 0) (.slice none 0 0) (.int .i64 0) (by simp) (by simp))
 have RD:=zh (fun u (h:RdD u x)=>sDiskRead u x 21 h hz)
 have TS:=zh (rd_size (room:=x.room) (nm:=21) hz)
 have RE:=zh (show loadD x.room x.ps=if(readD x.room x.ps 21).2=true∧(unsealN (nums (readD x.room x.ps 21).1) 0).2.2=0∧(unsealN (nums (readD x.room x.ps 21).1) 0).2.1=(nums (readD x.room x.ps 21).1).length then loadH (unsealN (nums (readD x.room x.ps 21).1) 0).1 else((0,zeroB),false) from rfl)
 generalize loadD x.room x.ps=rr at *
 generalize readD x.room x.ps 21=rd at *
 obtain⟨tx,th⟩:=rd
 have c0:=(zu G0).c0
 have c1:=(zu G0).c1
 have lt:=(zu G0).lt
 clear hr D1 b2
 go_enter Tryz.func5,Tryz.ntmps5
 go_wp2_with fail
 generalize ((w.alloc (.cells #[.int .i64 x.room,.slice x.a x.ps.length x.c] 39)).alloc (.cells #[.int .i64 0,.slice none 0 0,.slice none 0 0,.slice none 0 0,.slice none 0 0,.slice none 0 0,.int .i64 0] 34))=W at *
 refine(zu RD _ (zu G0).r).mono ?_
 rintro e u ⟨rfl,b1⟩
 have B1:=zh ((zu G0).b.trans (b1.mono (zu G0).b.size))
 have K1:=zh ((zu K0).below b1 (zu K0).lt.2)
 have us:=b1.size
 have wl:=(zu K0).lt.2
 clear b1 c0 c1 lt RD K0 G0
 cases th with
 |false=>
  have E:=zh (show rr=((0,zeroB),false) by rw[zu RE,if_neg (fun h=>by simp at h)])
  clear RE
  have f0:=(zu K1).free 0
  have q0:=(zu K1).c0
  have f1:=(zu K1).free 1
  have q1:=(zu K1).c1
  have f2:=(zu K1).free 2
  have q2:=(zu K1).c2
  have f3:=(zu K1).free 3
  have q3:=(zu K1).c3
  have f4:=(zu K1).free 4
  have q4:=(zu K1).c4
  have f5:=(zu K1).free 5
  have q5:=(zu K1).c5
  have f6:=(zu K1).free 6
  have q6:=(zu K1).c6
  have FZ:=zh (zfin (zu B1) (zu K1))
  go_wp2
  generalize (((((((u).setCell ⟨w.heap.size+1,0,none⟩ (.int .i64 0)).setCell ⟨w.heap.size+1,1,none⟩ (.slice none 0 0)).setCell ⟨w.heap.size+1,2,none⟩ (.slice none 0 0)).setCell ⟨w.heap.size+1,3,none⟩ (.slice none 0 0)).setCell ⟨w.heap.size+1,4,none⟩ (.slice none 0 0)).setCell ⟨w.heap.size+1,5,none⟩ (.slice none 0 0)).setCell ⟨w.heap.size+1,6,none⟩ (.int .i64 0)=U at *
  clear f0 q0 f1 q1 f2 q2 f3 q3 f4 q4 f5 q5 f6 q6
  have r0:=(zu FZ).2.c0
  have r1:=(zu FZ).2.c1
  have r2:=(zu FZ).2.c2
  have r3:=(zu FZ).2.c3
  have r4:=(zu FZ).2.c4
  have r5:=(zu FZ).2.c5
  have r6:=(zu FZ).2.c6
  refine bodyPost_ret (v:= .tuple #[.agg #[.int .i64 0,.slice none 0 0,.slice none 0 0,.slice none 0 0,.slice none 0 0,.slice none 0 0,.int .i64 0],.bool false]) (by simp[results,Tryz.results5,go_sem,r0,r1,r2,r3,r4,r5,r6]) rfl ?_
  rw[zu E]
  exact .no rfl (zu FZ).1
 |true=>
 have XL:=zh (show(nums tx).length=tx.size from nums_len tx)
 have tl:=zu TS
 obtain⟨cb,W3,hcb,CV,AB,s3,b3⟩:=to_bytes u tx
 have B3:=zh ((zu B1).trans (b3.mono (zu B1).size))
 have K3:=zh ((zu K1).below b3 (zu K1).lt.2)
 have hl:(nums tx).length≤1048576:=by rw[nums_len];exact tl
 have UN:=zh (sUnseal W3 u.heap.size cb (nums tx) 0 hl hcb (by omega) AB)
 have UL:=zh (un_len (nums tx) 0)
 have UI:=zh (un_in (xs:=nums tx) 0 (fun i hi=>(AB i hi).2))
 generalize nums tx=xs at *
 generalize unsealN xs 0=un at *
 obtain⟨hs,uq,uc⟩:=un
 clear b3 AB B1 K1 hcb
 go_wp2_with fail
 refine(zu UN).mono ?_
 rintro e u4 ⟨g4,c4,rfl,o4,b4⟩
 have B4:=zh ((zu B3).trans (b4.mono (zu B3).size))
 have K4:=zh ((zu K3).below b4 (zu K3).lt.2)
 have O4:=zh o4
 have us4:=b4.size
 clear b4 o4 CV UN B3 K3
 by_cases cz:uc=0
 case neg=>
  have E:=zh (show rr=((0,zeroB),false) by rw[zu RE,if_neg (fun h=>cz h.2.1)])
  have cb':(uc !=0)=true:=by simpa using cz
  clear RE cz
  have f0:=(zu K4).free 0
  have q0:=(zu K4).c0
  have f1:=(zu K4).free 1
  have q1:=(zu K4).c1
  have f2:=(zu K4).free 2
  have q2:=(zu K4).c2
  have f3:=(zu K4).free 3
  have q3:=(zu K4).c3
  have f4:=(zu K4).free 4
  have q4:=(zu K4).c4
  have f5:=(zu K4).free 5
  have q5:=(zu K4).c5
  have f6:=(zu K4).free 6
  have q6:=(zu K4).c6
  have FZ:=zh (zfin (zu B4) (zu K4))
  go_wp2
  generalize (((((((u4).setCell ⟨w.heap.size+1,0,none⟩ (.int .i64 0)).setCell ⟨w.heap.size+1,1,none⟩ (.slice none 0 0)).setCell ⟨w.heap.size+1,2,none⟩ (.slice none 0 0)).setCell ⟨w.heap.size+1,3,none⟩ (.slice none 0 0)).setCell ⟨w.heap.size+1,4,none⟩ (.slice none 0 0)).setCell ⟨w.heap.size+1,5,none⟩ (.slice none 0 0)).setCell ⟨w.heap.size+1,6,none⟩ (.int .i64 0)=U at *
  clear f0 q0 f1 q1 f2 q2 f3 q3 f4 q4 f5 q5 f6 q6
  have r0:=(zu FZ).2.c0
  have r1:=(zu FZ).2.c1
  have r2:=(zu FZ).2.c2
  have r3:=(zu FZ).2.c3
  have r4:=(zu FZ).2.c4
  have r5:=(zu FZ).2.c5
  have r6:=(zu FZ).2.c6
  refine bodyPost_ret (v:= .tuple #[.agg #[.int .i64 0,.slice none 0 0,.slice none 0 0,.slice none 0 0,.slice none 0 0,.slice none 0 0,.int .i64 0],.bool false]) (by simp[results,Tryz.results5,go_sem,r0,r1,r2,r3,r4,r5,r6]) rfl ?_
  rw[zu E]
  exact .no rfl (zu FZ).1
 subst cz
 by_cases qz:uq=tx.size
 case neg=>
  have E:=zh (show rr=((0,zeroB),false) by rw[zu RE,if_neg (fun h=>qz (h.2.2.trans (by rw[zu XL])))])
  have qb:(uq !=(tx.size:Int))=true:=by simpa using qz
  clear RE qz
  have f0:=(zu K4).free 0
  have q0:=(zu K4).c0
  have f1:=(zu K4).free 1
  have q1:=(zu K4).c1
  have f2:=(zu K4).free 2
  have q2:=(zu K4).c2
  have f3:=(zu K4).free 3
  have q3:=(zu K4).c3
  have f4:=(zu K4).free 4
  have q4:=(zu K4).c4
  have f5:=(zu K4).free 5
  have q5:=(zu K4).c5
  have f6:=(zu K4).free 6
  have q6:=(zu K4).c6
  have FZ:=zh (zfin (zu B4) (zu K4))
  go_wp2
  generalize (((((((u4).setCell ⟨w.heap.size+1,0,none⟩ (.int .i64 0)).setCell ⟨w.heap.size+1,1,none⟩ (.slice none 0 0)).setCell ⟨w.heap.size+1,2,none⟩ (.slice none 0 0)).setCell ⟨w.heap.size+1,3,none⟩ (.slice none 0 0)).setCell ⟨w.heap.size+1,4,none⟩ (.slice none 0 0)).setCell ⟨w.heap.size+1,5,none⟩ (.slice none 0 0)).setCell ⟨w.heap.size+1,6,none⟩ (.int .i64 0)=U at *
  clear f0 q0 f1 q1 f2 q2 f3 q3 f4 q4 f5 q5 f6 q6
  have r0:=(zu FZ).2.c0
  have r1:=(zu FZ).2.c1
  have r2:=(zu FZ).2.c2
  have r3:=(zu FZ).2.c3
  have r4:=(zu FZ).2.c4
  have r5:=(zu FZ).2.c5
  have r6:=(zu FZ).2.c6
  refine bodyPost_ret (v:= .tuple #[.agg #[.int .i64 0,.slice none 0 0,.slice none 0 0,.slice none 0 0,.slice none 0 0,.slice none 0 0,.int .i64 0],.bool false]) (by simp[results,Tryz.results5,go_sem,r0,r1,r2,r3,r4,r5,r6]) rfl ?_
  rw[zu E]
  exact .no rfl (zu FZ).1
 subst qz
 have RH:=zh (show rr=loadH hs by rw[zu RE,if_pos ⟨by trivial,by trivial,by rw[zu XL]⟩])
 have hl2:hs.length≤1048576:=by
  have:=zu UL
  try simp only at this
  omega
 have AH:=zh (show AtB u4 g4 hs from fun i hi=>⟨(zu O4).at i hi,(zu UI) i hi⟩)
 have GN:=zh (sGetNum u4 g4 c4 hs 0 hl2 (zu AH))
 have GI:=zh (getN_in hs 0)
 have LH:=zh (show loadH hs=if(getN hs 0).2.2=true∧okS (getN hs 0).1=true∧(readB (hs.drop (getN hs 0).2.1.toNat)).2=true then(((getN hs 0).1,(readB (hs.drop (getN hs 0).2.1.toNat)).1),true) else((0,zeroB),false) from rfl)
 generalize getN hs 0=gn at *
 obtain⟨f,fq,fb⟩:=gn
 clear RE UL UI TS
 go_wp2_with fail
 refine(zu GN).mono ?_
 rintro e u4 ⟨rfl,rfl⟩
 clear GN
 cases fb with
 |false=>
  have E:=zh (show rr=((0,zeroB),false) by rw[zu RH,zu LH,if_neg (fun h=>by simp at h)])
  clear RH LH
  have f0:=(zu K4).free 0
  have q0:=(zu K4).c0
  have f1:=(zu K4).free 1
  have q1:=(zu K4).c1
  have f2:=(zu K4).free 2
  have q2:=(zu K4).c2
  have f3:=(zu K4).free 3
  have q3:=(zu K4).c3
  have f4:=(zu K4).free 4
  have q4:=(zu K4).c4
  have f5:=(zu K4).free 5
  have q5:=(zu K4).c5
  have f6:=(zu K4).free 6
  have q6:=(zu K4).c6
  have FZ:=zh (zfin (zu B4) (zu K4))
  go_wp2
  generalize (((((((u4).setCell ⟨w.heap.size+1,0,none⟩ (.int .i64 0)).setCell ⟨w.heap.size+1,1,none⟩ (.slice none 0 0)).setCell ⟨w.heap.size+1,2,none⟩ (.slice none 0 0)).setCell ⟨w.heap.size+1,3,none⟩ (.slice none 0 0)).setCell ⟨w.heap.size+1,4,none⟩ (.slice none 0 0)).setCell ⟨w.heap.size+1,5,none⟩ (.slice none 0 0)).setCell ⟨w.heap.size+1,6,none⟩ (.int .i64 0)=U at *
  clear f0 q0 f1 q1 f2 q2 f3 q3 f4 q4 f5 q5 f6 q6
  have r0:=(zu FZ).2.c0
  have r1:=(zu FZ).2.c1
  have r2:=(zu FZ).2.c2
  have r3:=(zu FZ).2.c3
  have r4:=(zu FZ).2.c4
  have r5:=(zu FZ).2.c5
  have r6:=(zu FZ).2.c6
  refine bodyPost_ret (v:= .tuple #[.agg #[.int .i64 0,.slice none 0 0,.slice none 0 0,.slice none 0 0,.slice none 0 0,.slice none 0 0,.int .i64 0],.bool false]) (by simp[results,Tryz.results5,go_sem,r0,r1,r2,r3,r4,r5,r6]) rfl ?_
  rw[zu E]
  exact .no rfl (zu FZ).1
 |true=>
 cases sk:okS f with
 |false=>
  have E:=zh (show rr=((0,zeroB),false) by rw[zu RH,zu LH,if_neg (fun h=>by rw[sk] at h;simp at h)])
  have SK:=zh sk
  clear RH LH sk
  go_wp2_with fail
  refine(sSegOk _ f false (zu SK)).mono ?_
  rintro e u4 ⟨rfl,rfl⟩
  have f0:=(zu K4).free 0
  have q0:=(zu K4).c0
  have f1:=(zu K4).free 1
  have q1:=(zu K4).c1
  have f2:=(zu K4).free 2
  have q2:=(zu K4).c2
  have f3:=(zu K4).free 3
  have q3:=(zu K4).c3
  have f4:=(zu K4).free 4
  have q4:=(zu K4).c4
  have f5:=(zu K4).free 5
  have q5:=(zu K4).c5
  have f6:=(zu K4).free 6
  have q6:=(zu K4).c6
  have FZ:=zh (zfin (zu B4) (zu K4))
  go_wp2
  generalize (((((((u4).setCell ⟨w.heap.size+1,0,none⟩ (.int .i64 0)).setCell ⟨w.heap.size+1,1,none⟩ (.slice none 0 0)).setCell ⟨w.heap.size+1,2,none⟩ (.slice none 0 0)).setCell ⟨w.heap.size+1,3,none⟩ (.slice none 0 0)).setCell ⟨w.heap.size+1,4,none⟩ (.slice none 0 0)).setCell ⟨w.heap.size+1,5,none⟩ (.slice none 0 0)).setCell ⟨w.heap.size+1,6,none⟩ (.int .i64 0)=U at *
  clear f0 q0 f1 q1 f2 q2 f3 q3 f4 q4 f5 q5 f6 q6
  have r0:=(zu FZ).2.c0
  have r1:=(zu FZ).2.c1
  have r2:=(zu FZ).2.c2
  have r3:=(zu FZ).2.c3
  have r4:=(zu FZ).2.c4
  have r5:=(zu FZ).2.c5
  have r6:=(zu FZ).2.c6
  refine bodyPost_ret (v:= .tuple #[.agg #[.int .i64 0,.slice none 0 0,.slice none 0 0,.slice none 0 0,.slice none 0 0,.slice none 0 0,.int .i64 0],.bool false]) (by simp[results,Tryz.results5,go_sem,r0,r1,r2,r3,r4,r5,r6]) rfl ?_
  rw[zu E]
  exact .no rfl (zu FZ).1
 |true=>
 have SK:=zh sk
 obtain⟨f0',q0',q1'⟩:=(zu GI) rfl
 try simp only at f0' q0' q1'
 obtain⟨k,rfl⟩:∃k:Nat,fq=k:=⟨fq.toNat,by omega⟩
 have kl:k≤hs.length:=by omega
 have hc4:hs.length≤c4:=by
  rcases(zu O4).2 with⟨h1,_⟩|⟨g',c',cur,h1,_,_,h4,_⟩
  ·simp at h1
  ·obtain⟨_,e⟩:g4=g'∧c4=c':=by simpa using h1
   omega
 have SR:=zh (show ∀o cc,(o=k∨hs.length=k)→Calls Tryz.prog 18 #[.slice (some ⟨g4,o,none⟩) (hs.length-k) cc] u4 (ReadSaid (readB (hs.drop k)) u4) from fun o cc ho=>by
  have:=sBooksReadO (oz:=o) u4 g4 cc (hs.drop k) (by simp;omega) (zu O4).lt.2 (fun i hi=>by
   have hi':k+i<hs.length:=by simp at hi;omega
   have ok':o=k:=by omega
   have e:(hs.drop k).getD i 0=hs.getD (k+i) 0:=by simp[List.getD,List.getElem?_drop]
   rw[e,ok']
   exact(zu AH) (k+i) hi')
  rw[List.length_drop] at this
  exact this)
 have RL:=zh (show rr=if(readB (hs.drop k)).2=true then((f,(readB (hs.drop k)).1),true) else((0,zeroB),false) by
  rw[zu RH,zu LH]
  have e:((k:Int)).toNat=k:=by omega
  simp only[e]
  by_cases q:(readB (hs.drop k)).2=true
  ·rw[if_pos ⟨by trivial,sk,q⟩,if_pos q]
  ·rw[if_neg (fun h=>q h.2.2),if_neg q])
 have k0:¬((k:Int)<0):=by omega
 have k1:(k:Int)≤hs.length:=by omega
 generalize readB (hs.drop k)=rb at *
 obtain⟨bb,good⟩:=rb
 have AHk:=AH
 clear RH LH GI q0' q1' f0' sk
 go_wp2_with fail
 refine(sSegOk _ f true (zu SK)).mono ?_
 rintro e u4 ⟨rfl,rfl⟩
 go_wp2_with fail
 all_goals
  refine(zu SR _ _ (by omega)).mono ?_
  rintro e u5 ⟨y,hy,rfl,ry,b5⟩
  have B5:=zh ((zu B4).trans (b5.mono (zu B4).size))
  have K5:=zh ((zu K4).below b5 (zu K4).lt.2)
  have bx:=one_more u5 (.cells #[.slice y.aa y.b.ac.length y.ca,.slice y.ai y.b.ic.length y.ci,.slice y.ab y.b.bs.length y.cb,.slice y.al y.b.ls.length y.cl,.slice y.ats y.b.ts.length y.ct,.int .i64 y.b.lot] 32)
  have B6:=zh ((zu B5).trans (bx.mono (zu B5).size))
  have K6:=zh ((zu K5).below bx (zu K5).lt.2)
  have R6:=zh (ry.below bx)
  have HY:=zh hy
  have y0:(u5.alloc (.cells #[.slice y.aa y.b.ac.length y.ca,.slice y.ai y.b.ic.length y.ci,.slice y.ab y.b.bs.length y.cb,.slice y.al y.b.ls.length y.cl,.slice y.ats y.b.ts.length y.ct,.int .i64 y.b.lot] 32)).cell? ⟨u5.heap.size,0,none⟩=some (.slice y.aa y.b.ac.length y.ca):=by simp
  have us5:=b5.size
  clear b5 bx ry hy B4 K4 SR AH O4 B5 K5 y0
  cases good with
  |false=>
   have E:=zh (show rr=((0,zeroB),false) by rw[zu RL,if_neg (by simp)])
   clear RL
   have f0:=(zu K6).free 0
   have q0:=(zu K6).c0
   have f1:=(zu K6).free 1
   have q1:=(zu K6).c1
   have f2:=(zu K6).free 2
   have q2:=(zu K6).c2
   have f3:=(zu K6).free 3
   have q3:=(zu K6).c3
   have f4:=(zu K6).free 4
   have q4:=(zu K6).c4
   have f5:=(zu K6).free 5
   have q5:=(zu K6).c5
   have f6:=(zu K6).free 6
   have q6:=(zu K6).c6
   have FZ:=zh (zfin (zu B6) (zu K6))
   go_wp2
   generalize ((((((((u5.alloc (.cells #[.slice y.aa y.b.ac.length y.ca,.slice y.ai y.b.ic.length y.ci,.slice y.ab y.b.bs.length y.cb,.slice y.al y.b.ls.length y.cl,.slice y.ats y.b.ts.length y.ct,.int .i64 y.b.lot] 32))).setCell ⟨w.heap.size+1,0,none⟩ (.int .i64 0)).setCell ⟨w.heap.size+1,1,none⟩ (.slice none 0 0)).setCell ⟨w.heap.size+1,2,none⟩ (.slice none 0 0)).setCell ⟨w.heap.size+1,3,none⟩ (.slice none 0 0)).setCell ⟨w.heap.size+1,4,none⟩ (.slice none 0 0)).setCell ⟨w.heap.size+1,5,none⟩ (.slice none 0 0)).setCell ⟨w.heap.size+1,6,none⟩ (.int .i64 0)=U at *
   clear f0 q0 f1 q1 f2 q2 f3 q3 f4 q4 f5 q5 f6 q6
   have r0:=(zu FZ).2.c0
   have r1:=(zu FZ).2.c1
   have r2:=(zu FZ).2.c2
   have r3:=(zu FZ).2.c3
   have r4:=(zu FZ).2.c4
   have r5:=(zu FZ).2.c5
   have r6:=(zu FZ).2.c6
   refine bodyPost_ret (v:= .tuple #[.agg #[.int .i64 0,.slice none 0 0,.slice none 0 0,.slice none 0 0,.slice none 0 0,.slice none 0 0,.int .i64 0],.bool false]) (by simp[results,Tryz.results5,go_sem,r0,r1,r2,r3,r4,r5,r6]) rfl ?_
   rw[zu E]
   exact .no rfl (zu FZ).1
  |true=>
   have E:=zh (show rr=((f,bb),true) by rw[zu RL,if_pos rfl])
   clear RL
   have f0:=(zu K6).free 0
   have q0:=(zu K6).c0
   have f1:=(zu K6).free 1
   have q1:=(zu K6).c1
   have f2:=(zu K6).free 2
   have q2:=(zu K6).c2
   have f3:=(zu K6).free 3
   have q3:=(zu K6).c3
   have f4:=(zu K6).free 4
   have q4:=(zu K6).c4
   have f5:=(zu K6).free 5
   have q5:=(zu K6).c5
   have f6:=(zu K6).free 6
   have q6:=(zu K6).c6
   have FZ:=zh (yfin (zu B6) (zu K6) f y (zu R6) (zu K6).c1)
   go_wp2
   generalize ((((((((u5.alloc (.cells #[.slice y.aa y.b.ac.length y.ca,.slice y.ai y.b.ic.length y.ci,.slice y.ab y.b.bs.length y.cb,.slice y.al y.b.ls.length y.cl,.slice y.ats y.b.ts.length y.ct,.int .i64 y.b.lot] 32))).setCell ⟨w.heap.size+1,0,none⟩ (.int .i64 f)).setCell ⟨w.heap.size+1,1,none⟩ (.slice y.aa y.b.ac.length y.ca)).setCell ⟨w.heap.size+1,2,none⟩ (.slice y.ai y.b.ic.length y.ci)).setCell ⟨w.heap.size+1,3,none⟩ (.slice y.ab y.b.bs.length y.cb)).setCell ⟨w.heap.size+1,4,none⟩ (.slice y.al y.b.ls.length y.cl)).setCell ⟨w.heap.size+1,5,none⟩ (.slice y.ats y.b.ts.length y.ct)).setCell ⟨w.heap.size+1,6,none⟩ (.int .i64 y.b.lot)=U at *
   clear f0 q0 f1 q1 f2 q2 f3 q3 f4 q4 f5 q5 f6 q6
   have r0:=(zu FZ).2.1.c0
   have r1:=(zu FZ).2.1.c1
   have r2:=(zu FZ).2.1.c2
   have r3:=(zu FZ).2.1.c3
   have r4:=(zu FZ).2.1.c4
   have r5:=(zu FZ).2.1.c5
   have r6:=(zu FZ).2.1.c6
   refine bodyPost_ret (v:= .tuple #[.agg #[.int .i64 f,.slice y.aa y.b.ac.length y.ca,.slice y.ai y.b.ic.length y.ci,.slice y.ab y.b.bs.length y.cb,.slice y.al y.b.ls.length y.cl,.slice y.ats y.b.ts.length y.ct,.int .i64 y.b.lot],.bool true]) (by simp[results,Tryz.results5,go_sem,r0,r1,r2,r3,r4,r5,r6]) rfl ?_
   rw[zu E]
   exact⟨y,zu HY,rfl,(zu FZ).2.2,(zu FZ).1⟩
end SLoad16
namespace IFile14
open Fil14 OpensF14 DiskH14 DkH14 SDk14 SOk14
theorem iName(w:World)(n:Int):Calls Tryz.prog 76 #[.int .i64 n] w fun e w'=>e= .returned (.bool (okN n))∧w'=w:=by
 unfold okN
 by_cases h0:0≤n
 ·by_cases h1:n≤21
  ·rw[decide_eq_true ⟨h0,h1⟩]
   have a:n≥0:=h0
   have b:n<22:=by omega
   clear h1
   go_enter Tryz.func76,Tryz.ntmps76
   go_wp2
   go_ret
   exact⟨rfl,rfl⟩
  ·rw[decide_eq_false (fun q=>h1 q.2)]
   have a:n≥0:=h0
   have b:¬n<22:=by omega
   clear h1
   go_enter Tryz.func76,Tryz.ntmps76
   go_wp2
   go_ret
   exact⟨rfl,rfl⟩
 ·rw[decide_eq_false (fun q=>h0 q.1)]
  have a:¬n≥0:=h0
  go_enter Tryz.func76,Tryz.ntmps76
  go_wp2
  go_ret
  exact⟨rfl,rfl⟩
theorem iNameB(w:World)(n:Int)(b:Bool)(h:okN n=b):Calls Tryz.prog 76 #[.int .i64 n] w fun e w'=>e= .returned (.bool b)∧w'=w:=by
 rw[←h]
 exact iName w n
theorem iSizeF(w:World)(p0:Int)(p1 p2:ByteArray)(h:p1.size+p2.size≤1048576):Calls Tryz.prog 75 #[.agg #[.int .i64 p0,.string p1,.string p2]] w fun e w'=>e= .returned (.int .i64 ((p1.size:Int)+p2.size))∧Below w.heap.size w w':=by
 have B:=zh (one_more w (.cells #[.int .i64 p0,.string p1,.string p2] 66))
 have a1:wrap64 ((p1.size:Int)+p2.size)=p1.size+p2.size:=by rw[wrap64];omega
 go_enter Tryz.func75,Tryz.ntmps75
 go_wp2
 go_ret
 exact⟨rfl,zu B⟩
theorem iText(w:World)(p0:Int)(p1 p2:ByteArray)(h:p1.size+p2.size≤1048576):Calls Tryz.prog 40 #[.agg #[.int .i64 p0,.string p1,.string p2]] w fun e w'=>e= .returned (.string (p1++p2))∧Below w.heap.size w w':=by
 have B:=zh (one_more w (.cells #[.int .i64 p0,.string p1,.string p2] 66))
 go_enter Tryz.func40,Tryz.ntmps40
 go_wp2
 go_ret
 exact⟨rfl,zu B⟩
end IFile14
namespace IOk14
open Fil14 OpensF14 DiskH14 DkH14 SDk14 SOk14 IFile14
def Okk(ps:List TF)(room:Int)(k:Nat)(lf y:Int):Prop:=lf=room-sumZ (ps.take k)∧(k=0→y= -1)∧(0<k→y=(elF ps (k-1)).1)∧∀i,i<k→okAt ps i
theorem okk_0(ps:List TF)(room:Int):Okk ps room 0 room (-1):=⟨by simp[sumZ],fun _=>rfl,fun h=>absurd h (by omega),fun i h=>absurd h (by omega)⟩
theorem okk_next{ps:List TF}{room:Int}{k:Nat}{lf y:Int}(h:Okk ps room k lf y)(hk:k<ps.length)(a:okN (elF ps k).1=true)(b:¬(elF ps k).1≤y):Okk ps room (k+1) (lf-((elF ps k).2.1.size+(elF ps k).2.2.size)) (elF ps k).1:=by
 obtain⟨h1,h2,h3,h4⟩:=h
 have n:=sumZ_next hk
 refine⟨by omega,fun e=>absurd e (by omega),fun _=>by simp,fun i hi=>?_⟩
 by_cases e:i=k
 ·subst e
  refine⟨a,fun p=>?_⟩
  have:=h3 p
  omega
 ·exact h4 i (by omega)
theorem okk_bad1{ps:List TF}{room:Int}{k:Nat}(hk:k<ps.length)(a:okN (elF ps k).1=false):¬OkD room ps:=fun h=>by
 have:=(h.2.2.2 k hk).1
 rw[a] at this
 cases this
theorem okk_bad2{ps:List TF}{room:Int}{k:Nat}{lf y:Int}(g:Okk ps room k lf y)(hk:k<ps.length)(a:okN (elF ps k).1=true)(b:(elF ps k).1≤y):¬OkD room ps:=fun h=>by
 have n:=(h.2.2.2 k hk).2
 have l:0≤(elF ps k).1:=(of_decide_eq_true a).1
 by_cases e:k=0
 ·have:=g.2.1 e
  omega
 ·have:=g.2.2.1 (by omega)
  have:=n (by omega)
  omega
theorem okk_bad3{ps:List TF}{room:Int}{k:Nat}{lf y:Int}(g:Okk ps room k lf y)(hk:k<ps.length)(b:lf-((elF ps k).2.1.size+(elF ps k).2.2.size)<0):¬OkD room ps:=fun h=>by
 have n:=sumZ_next hk
 have l:=sumZ_le ps (k+1)
 have:=h.2.2.1
 have:=g.1
 omega
theorem names_up{ps:List TF}(h:∀i,i<ps.length→okAt ps i):∀i:Nat,i<ps.length→(i:Int)≤(elF ps i).1
 |0=>fun q=>by
  have:=(h 0 q).1
  exact(of_decide_eq_true this).1
 |i+1=>fun q=>by
  have:=names_up h i (by omega)
  have:=(h (i+1) q).2 (by omega)
  simp only[Nat.add_sub_cancel] at this
  omega
theorem okk_all{ps:List TF}{room:Int}{lf y:Int}(g:Okk ps room ps.length lf y)(h0:0≤room∧room≤60000)(hl:0≤lf):OkD room ps:=by
 obtain⟨h1,_,_,h4⟩:=g
 rw[List.take_length] at h1
 refine⟨h0,?_,by omega,h4⟩
 by_cases e:ps.length=0
 ·omega
 ·have a:=names_up h4 (ps.length-1) (by omega)
  have b:=(h4 (ps.length-1) (by omega)).1
  have b:=(of_decide_eq_true b).2
  omega
theorem iDiskOk(w:World)(x:Dx)(hr:RdD w x)(hz:sumZ x.ps≤1048576):
  Calls Tryz.prog 38 #[.agg #[.int .i64 x.room,.slice x.a x.ps.length x.c]] w fun e w'=>e= .returned (.bool (decide (OkD x.room x.ps)))∧Below w.heap.size w w':=by
 have W0:=zh (Wd.made hr 39)
 have h20:=hr.n
 clear hr
 generalize hR:decide (OkD x.room x.ps)=R
 have HR:=zh hR
 clear hR
 by_cases q0:x.room<0
 ·obtain rfl:R=false:=by rw[←zu HR];exact decide_eq_false (fun h=>by have:=h.1;omega)
  clear HR
  go_enter Tryz.func38,Tryz.ntmps38
  go_wp2
  go_ret
  exact⟨rfl,(zu W0).b⟩
 have d0:decide (x.room<0)=false:=decide_eq_false q0
 by_cases q1:x.room>60000
 ·obtain rfl:R=false:=by rw[←zu HR];exact decide_eq_false (fun h=>by have:=h.1;omega)
  clear HR q0
  go_enter Tryz.func38,Tryz.ntmps38
  go_wp2
  go_ret
  exact⟨rfl,(zu W0).b⟩
 have d1:decide (x.room>60000)=false:=decide_eq_false q1
 have RM:=zh (show 0≤x.room∧x.room≤60000 by omega)
 have OK0:=zh (okk_0 x.ps x.room)
 clear q0 q1
 go_enter Tryz.func38,Tryz.ntmps38
 go_wp2
 go_loopw [3,4,20] (fun l b i wr=>∃(k:Nat) (lf y:Int),k≤x.ps.length∧i= .int .i64 k∧l= .int .i64 lf∧b= .int .i64 y∧0≤lf∧lf≤60000∧Hid (Okk x.ps x.room k lf y)∧Hid (Wd w wr x)) (fun _ _ i _=>x.ps.length-(intOf i).toNat)
 case atStart=>exact⟨0,x.room,-1,by omega,rfl,rfl,rfl,(zu RM).1,(zu RM).2,OK0,W0⟩
 case round=>
  clear W0 OK0 d0 d1
  obtain⟨k,lf,y,hk,rfl,rfl,rfl,y0,y1,HY,HW⟩:=hrel
  by_cases t:k<x.ps.length
  ·have kt:(k:Int)<x.ps.length:=by omega
   have NX:=sumZ_next t
   have LE:=sumZ_le x.ps (k+1)
   have BAD1:=zh (fun a=>okk_bad1 (room:=x.room) t a)
   have BAD2:=zh (fun a b=>okk_bad2 (zu HY) t a b)
   have BAD3:=zh (fun a=>okk_bad3 (zu HY) t a)
   have GO:=zh (fun a b=>okk_next (zu HY) t a b)
   obtain⟨g,ea,lg,e0,e1,e2⟩:=cells_of (zu HW).r t
   have c1:=(zu HW).c1
   have lt:=(zu HW).lt
   generalize (elF x.ps k).1=z0 at *
   generalize (elF x.ps k).2.1=z1 at *
   generalize (elF x.ps k).2.2=z2 at *
   have b1:z1.size+z2.size≤1048576:=by omega
   obtain⟨lg2,hl⟩:∃q,q=lf-((z1.size:Int)+z2.size):=⟨_,rfl⟩
   have a2:wrap64 (lf-((z1.size:Int)+z2.size))=lg2:=by rw[wrap64];omega
   have S3:=zh (fun h:¬lg2<0=>show 0≤lg2∧lg2≤60000 by omega)
   have BAD4:=zh (fun h:lg2<0=>(zu BAD3) (by rw[←hl];exact h))
   rw[←hl] at GO
   clear hl BAD3
   clear NX LE HY
   have IX:=SCom14.ixF x.c ea t
   clear ea c1
   have OB:=zh (one_more wr (.cells #[.int .i64 z0,.string z1,.string z2] 66))
   have F0:(wr.alloc (.cells #[.int .i64 z0,.string z1,.string z2] 66)).cell? ⟨wr.heap.size,0,none⟩=some (.int .i64 z0):=by simp[go_sem]
   have FS:wr.heap.size<(wr.alloc (.cells #[.int .i64 z0,.string z1,.string z2] 66)).heap.size:=by simp
   have F:=zh (And.intro F0 FS)
   clear F0 FS
   go_wp2_with fail
   refine(iSizeF _ z0 z1 z2 b1).mono ?_
   rintro e w2 ⟨rfl,bb⟩
   have f0:=(bb.cell (p:=⟨wr.heap.size,0,none⟩) (zu F).2).trans (zu F).1
   have HW2:=zh (((zu HW).step (zu OB)).step bb)
   clear bb OB F HW e0 e1 e2 IX
   have D:=zh (fun u b h=>iNameB u z0 b h)
   clear b1
   by_cases n1:okN z0=true
   ·have N1:=zh n1
    clear n1
    by_cases n2:z0≤y
    ·obtain rfl:R=false:=by rw[←zu HR];exact decide_eq_false ((zu BAD2) (zu N1) n2)
     clear BAD1 BAD2 BAD4 GO HR
     go_wp2_with fail
     refine(zu D _ true (zu N1)).mono ?_
     rintro e u ⟨rfl,rfl⟩
     go_wp2
     go_ret
     exact⟨rfl,(zu HW2).b⟩
    ·have n2':decide (z0≤y)=false:=decide_eq_false n2
     have GO':=zh ((zu GO) (zu N1) (by omega))
     clear n2 GO BAD1 BAD2
     by_cases n3:lg2<0
     ·obtain rfl:R=false:=by rw[←zu HR];exact decide_eq_false ((zu BAD4) n3)
      clear BAD4 GO' HR
      go_wp2_with fail
      refine(zu D _ true (zu N1)).mono ?_
      rintro e u ⟨rfl,rfl⟩
      go_wp2
      go_ret
      exact⟨rfl,(zu HW2).b⟩
     ·have n3':decide (lg2<0)=false:=decide_eq_false n3
      have S:=zh ((zu S3) (by omega))
      clear n3 BAD4
      go_wp2_with fail
      refine(zu D _ true (zu N1)).mono ?_
      rintro e u ⟨rfl,rfl⟩
      go_wp2
      go_roundw
      case rel=>exact⟨k+1,lg2,z0,by omega,by go_num,rfl,rfl,(zu S).1,(zu S).2,GO',HW2⟩
      case measure=>simp[intOf];omega
   ·have n1':okN z0=false:=by simpa using n1
    obtain rfl:R=false:=by rw[←zu HR];exact decide_eq_false ((zu BAD1) n1')
    have N1:=zh n1'
    clear BAD1 BAD2 BAD4 GO HR n1 n1'
    go_wp2_with fail
    refine(zu D _ false (zu N1)).mono ?_
    rintro e u ⟨rfl,rfl⟩
    go_wp2
    go_ret
    exact⟨rfl,(zu HW2).b⟩
  ·have e:k=x.ps.length:=by omega
   have kt:¬(k:Int)<x.ps.length:=by omega
   obtain rfl:R=true:=by rw[←zu HR];exact decide_eq_true (okk_all (by rw[←e];exact zu HY) (zu RM) y0)
   clear HY HR
   subst e
   go_wp2
   go_ret
   exact⟨rfl,(zu HW).b⟩
end IOk14
namespace TabF14
open Fil14 OpensF14 DiskH14 DkH14 SDk14 SOk14
open Go.Maps (Keyed)
theorem law:Keyed Tryz.prog 3:=Maps.int_keyed Tryz.underlying3
def Wf(n:Int):Prop:=(Lit.int .i64 n).wf=true
theorem wf_ok{n:Int}(h:okN n=true):Wf n:=by
 unfold okN at h
 exact WalkArith.wf_i64 (by simp at h;omega)
abbrev z0:TF:=(0,ByteArray.empty,ByteArray.empty)
abbrev fV(p:TF):Value:= .agg #[.int .i64 p.1,.string p.2.1,.string p.2.2]
theorem fV_inj{p q:TF}(h:fV p=fV q):p=q:=by
 obtain⟨a,b,c⟩:=p
 obtain⟨d,e,f⟩:=q
 simp[fV] at h
 simp[h]
theorem zero(w:World):(zeroValue 66).run Tryz.prog w= .ok (fV z0) w:=by kernel_rfl
open Classical in
noncomputable def rF (v:Value):Option (DataW TF×List MemPlace):=if h:∃p,v=fV p then some (.held h.choose,[]) else none
theorem rF_mk(p:TF):rF (fV p)=some (.held p,[]):=by
 unfold rF
 have h:∃q,fV p=fV q:=⟨p,rfl⟩
 rw[dif_pos h,←fV_inj h.choose_spec]
theorem rF_inv{v:Value}{d:DataW TF}{ps:List MemPlace}(h:rF v=some (d,ps)):∃p,v=fV p∧d= .held p:=by
 unfold rF at h
 split at h
 ·rename_i q
  have e:DataW.held q.choose=d:=by simpa using congrArg (fun o=>o.map (·.1)) h
  exact⟨q.choose,q.choose_spec,e.symm⟩
 ·cases h
theorem key_of{n:Int}(h:Wf n):keyOf Tryz.prog 3 (.int .i64 n)=some (.int .i64 n):=Maps.keyOf_int_mk Tryz.underlying3 h
def upd(f:Int→Option TF)(k:Int)(p:Option TF):Int→Option TF:=fun j=>if j=k then p else f j
def Tf(w:World)(B n:Nat)(f:Int→Option TF):Prop:=∃D:DataW TF,w.ownsMap Tryz.prog 3 rF B n D∧∀k,Wf k→D.atKey (.int .i64 k) (.held z0)= .held ((f k).getD z0)∧Maps.has D (.int .i64 k)=(f k).isSome
theorem tf_made(w:World):Tf (w.alloc (.map #[] 0)) w.heap.size 0 (fun _=>none):=
 ⟨.map [],World.ownsMap_made _ _ _ _,fun k h=>⟨rfl,rfl⟩⟩
theorem Tf.lt{w:World}{B n:Nat}{f:Int→Option TF}(h:Tf w B n f):B<w.heap.size:=by
 obtain⟨D,h1,_⟩:=h
 exact h1.lt
theorem Tf.kept{w w':World}{B n:Nat}{f:Int→Option TF}{row:Option Nat}(h:Tf w B n f)(hg:w.grownBy w' row)(hne:some B≠row):Tf w' B n f:=by
 obtain⟨D,h1,h2⟩:=h
 exact⟨D,h1.kept hg hne,h2⟩
theorem below_grown{w w':World}(h:Below w.heap.size w w'):w.grownBy w' none:=⟨h.os,h.tape,h.output,h.size,fun k hk _=>h.block k hk⟩
theorem Tf.below{w w':World}{B n:Nat}{f:Int→Option TF}(h:Tf w B n f)(k:Below w.heap.size w w'):Tf w' B n f:=h.kept (below_grown k) (by simp)
theorem Tf.drew{w:World}{B n:Nat}{f:Int→Option TF}(h:Tf w B n f):Tf w.drew B n f:=h.below (Below.refl _ _).drew
theorem isMap_of{w:World}{B n:Nat}{D:DataW TF}(h:w.ownsMap Tryz.prog 3 rF B n D):Maps.IsMap D:=by
 obtain⟨es,clock,_,_,_,rfl⟩:=h
 exact⟨_,rfl⟩
theorem key_ne{j k:Int}(h:j≠k):Lit.int .i64 j≠Lit.int .i64 k:=fun e=>h (by simpa using e)
theorem wp_have(w:World){ops:Array Oper}{rest:List Oper}{o:Oper}{s:Act}{Q:Exit→Act→World→Prop}
  (hg:o.guard=none)(m x:Operand)(hop:o.op=Op.lookup 87 m x true)(B n:Nat)(f:Int→Option TF)(hm:s.eval m= .map (some B))(hown:Tf w B n f)(k:Int)(hx:s.eval x= .int .i64 k)(hw:Wf k)
  (p:TF)(b:Bool)(hp:(f k).getD z0=p)(hb:(f k).isSome=b)
  (hK:wpList Tryz.prog ops Q rest (s.put o.dst (.tuple #[.agg #[.int .i64 p.1,.string p.2.1,.string p.2.2],.bool b])) w):wpList Tryz.prog ops Q (o::rest) s w:=by
 obtain⟨D,h1,h2⟩:=hown
 subst hp hb
 refine wpList_lookup_own_ok w hg m x 87 hop 3 66 law Tryz.underlying87 rF (zero w) (.held z0) [] (rF_mk z0) B n D hm h1 _ (.int .i64 k) hx (key_of hw) ?_
 intro v ps hv
 obtain⟨p,rfl,e⟩:=rF_inv hv
 rw[(h2 k hw).1] at e
 have e':(f k).getD z0=p:=by simpa using e
 rw[(h2 k hw).2,←e']
 exact hK
theorem wp_put(w:World){ops:Array Oper}{rest:List Oper}{o:Oper}{s:Act}{Q:Exit→Act→World→Prop}
  (hg:o.guard=none)(m x y:Operand)(hop:o.op=Op.mapUpdate 87 m x y)(B n:Nat)(f:Int→Option TF)(hm:s.eval m= .map (some B))(hown:Tf w B n f)(hn:n≤1048576)(k:Int)(p:TF)(hx:s.eval x= .int .i64 k)(hy:s.eval y= .agg #[.int .i64 p.1,.string p.2.1,.string p.2.2])(hw:Wf k)
  (hK:∀w',Tf w' B (n+1) (upd f k (some p))→w.grownBy w' (some B)→wpList Tryz.prog ops Q rest (s.put o.dst undef) w'):wpList Tryz.prog ops Q (o::rest) s w:=by
 obtain⟨D,h1,h2⟩:=hown
 refine wpList_mapUpdate_own w hg m x y 87 hop 3 66 law Tryz.underlying87 rF B n D hm h1 (by unfold maxLen;omega) _ _ (.int .i64 k) hx hy (key_of hw) (.held p) [] (rF_mk p) ?_
 intro w' h3 h4
 refine hK w' ⟨_,h3,fun j hj=>?_⟩ h4
 unfold upd
 by_cases e:j=k
 ·subst e
  rw[if_pos rfl,Maps.atKey_put_same (isMap_of h1) (law.key (key_of hw)),Maps.has_put_same (isMap_of h1) (law.key (key_of hw))]
  exact⟨rfl,rfl⟩
 ·rw[if_neg e,Maps.atKey_put_other (key_ne e),Maps.has_put_other (key_ne e)]
  exact h2 j hj
def tabN(ps:List TF):Nat→Int→Option TF
 |0=>fun _=>none
 |k+1=>upd (tabN ps k) (elF ps k).1 (some (elF ps k))
def tabOf(ps:List TF):Int→Option TF:=tabN ps ps.length
end TabF14
namespace ITb14
open Fil14 OpensF14 DiskH14 DkH14 SDk14 SOk14 SLess14 TabF14
theorem wd_grown{w wr wz:World}{x:Dx}{B:Nat}(h:Wd w wr x)(k:wr.grownBy wz (some B))(hB:w.heap.size<B)(hx:∀g,x.a=some ⟨g,0,none⟩→g≠B):Wd w wz x:=by
 refine⟨(App14.kcell k 0 h.lt (by omega)).trans h.c0,(App14.kcell k 1 h.lt (by omega)).trans h.c1,Nat.lt_of_lt_of_le h.lt k.size,grow_low h.b k ⟨by omega,Nat.le_of_lt h.lt⟩,⟨h.r.e,fun g e=>?_,h.r.n⟩⟩
 obtain⟨l,a⟩:=h.r.r g e
 have c:=fun o=>App14.kcell k o l (hx g e)
 refine⟨Nat.lt_of_lt_of_le l k.size,fun i hi=>?_⟩
 obtain⟨a0,a1,a2⟩:=a i hi
 exact⟨(c _).trans a0,(c _).trans a1,(c _).trans a2⟩
theorem iTable(w:World)(x:Dx)(hr:RdD w x)(hn:∀i,i<x.ps.length→Wf (elF x.ps i).1):
  Calls Tryz.prog 39 #[.agg #[.int .i64 x.room,.slice x.a x.ps.length x.c]] w fun e w'=>e= .returned (.map (some (w.heap.size+1)))∧Tf w' (w.heap.size+1) x.ps.length (tabOf x.ps)∧Below w.heap.size w w':=by
 have W1:=Wd.made hr 39
 have XA:=zh (fun g e=>(hr.r g e).1)
 have h20:=hr.n
 have HN:=zh hn
 clear hr hn
 have S1:(w.alloc (.cells #[.int .i64 x.room,.slice x.a x.ps.length x.c] 39)).heap.size=w.heap.size+1:=by simp
 have T0:=tf_made (w.alloc (.cells #[.int .i64 x.room,.slice x.a x.ps.length x.c] 39))
 rw[S1] at T0
 have G0:=zh (And.intro (W1.step (one_more _ (.map #[] 0))) T0)
 have hmm:= @run_makeMap Tryz.prog
 clear W1 S1 T0
 go_enter Tryz.func39,Tryz.ntmps39
 go_wp2
 go_loopw [10] (fun i wr=>∃(k:Nat),k≤x.ps.length∧i= .int .i64 k∧Hid (Wd w wr x)∧Hid (Tf wr (w.heap.size+1) k (tabN x.ps k))) (fun i _=>x.ps.length-(intOf i).toNat)
 case atStart=>exact⟨0,by omega,rfl,zh (zu G0).1,zh (zu G0).2⟩
 case round=>
  clear G0
  obtain⟨k,hk,rfl,HW,HT⟩:=hrel
  by_cases t:k<x.ps.length
  ·have kt:(k:Int)<x.ps.length:=by omega
   obtain⟨g,ea,lg,e0,e1,e2⟩:=cells_of (zu HW).r t
   have lt:=(zu HW).lt
   have IX:=SCom14.ixF x.c ea t
   have WF:=(zu HN) k t
   have PR:elF x.ps k=((elF x.ps k).1,(elF x.ps k).2.1,(elF x.ps k).2.2):=rfl
   have TE:=zh (show tabN x.ps (k+1)=upd (tabN x.ps k) (elF x.ps k).1 (some ((elF x.ps k).1,(elF x.ps k).2.1,(elF x.ps k).2.2)) from rfl)
   generalize tabN x.ps k=f at *
   clear PR
   generalize (elF x.ps k).1=z0 at *
   generalize (elF x.ps k).2.1=z1 at *
   generalize (elF x.ps k).2.2=z2 at *
   clear ea
   have OB:=one_more wr (.cells #[.int .i64 z0,.string z1,.string z2] 66)
   have HW2:=zh ((zu HW).step OB)
   have HT2:=zh ((zu HT).below OB)
   clear OB HW HT
   go_wp2_with (first|(at_mapUpdate;refine wp_put _ rfl _ _ _ rfl (w.heap.size+1) k _ rfl (zu HT2) (by omega) z0 (z0,z1,z2) rfl rfl WF ?_;intro w1 t1 g1)|go_in)
   go_roundw
   case rel=>exact⟨k+1,by omega,by go_num,zh (wd_grown (zu HW2) g1 (by omega) (fun g e=>by have:=(zu XA) g e;omega)),zh (by rw[zu TE];exact t1)⟩
   case measure=>simp[intOf];omega
  ·have e:k=x.ps.length:=by omega
   have kt:¬(k:Int)<x.ps.length:=by omega
   subst e
   go_wp2
   go_ret
   exact⟨rfl,zu HT,(zu HW).b⟩
end ITb14
namespace SPut14
open Fil14 OpensF14 DiskH14 DkH14 SDk14 SOk14 SRd14 App14 SLess14
open DkH14 (row_step)
structure Pt(B O:Nat)(W wr:World)(room:Int)(L:List TF)(a:Option Addr)(m c:Nat):Prop where
 gr:W.grownBy wr (some O)
 bx:Bc wr B O (.int .i64 room) (.slice a m c)
 ow:wr.ownsRow W.heap.size 66 3 (.slice a m c) m (flatF L)
theorem Pt.drew{B O:Nat}{W wr:World}{room:Int}{L:List TF}{a:Option Addr}{m c:Nat}(h:Pt B O W wr room L a m c):Pt B O W wr.drew room L a m c:=⟨⟨h.gr.os,h.gr.tape,h.gr.output,h.gr.size,h.gr.block⟩,h.bx,h.ow⟩
theorem Pt.off{B O:Nat}{W wr:World}{room:Int}{L:List TF}{a:Option Addr}{m c:Nat}(h:Pt B O W wr room L a m c):∀j,(Value.slice a m c).ownBlock=some j→W.heap.size≤j:=fun j hj=>(World.ownsRow.lt h.ow j hj).1
end SPut14
namespace Pure14
open Fil14 DiskH14 SDk14 SOk14 SRd14 SLess14 SCom14 SPut14
def Asc(ps:List TF):Prop:=ps.Pairwise (fun p q=>p.1<q.1)
def Named(ps:List TF):Prop:=∀p∈ps,0≤p.1∧p.1≤21
theorem elF_mem{ps:List TF}{i:Nat}(h:i<ps.length):elF ps i∈ps:=by
 rw[elF_get h]
 exact List.getElem_mem h
theorem mem_elF{ps:List TF}{p:TF}(h:p∈ps):∃i,i<ps.length∧elF ps i=p:=by
 obtain⟨i,hi,e⟩:=List.getElem_of_mem h
 exact⟨i,hi,by rw[elF_get hi];exact e⟩
theorem ok_named{n:Int}:okN n=true↔0≤n∧n≤21:=by unfold okN;simp
theorem step_lt{ps:List TF}(h:∀i,i<ps.length→okAt ps i):∀j i,i<j→j<ps.length→(elF ps i).1<(elF ps j).1
 |0,i=>fun a _=>absurd a (by omega)
 |j+1,i=>fun a b=>by
  have s:=(h (j+1) b).2 (by omega)
  simp only[Nat.add_sub_cancel] at s
  by_cases e:i=j
  ·subst e;exact s
  ·have:=step_lt h j i (by omega) (by omega)
   omega
theorem asc_of{room:Int}{ps:List TF}(h:OkD room ps):Asc ps∧Named ps:=by
 refine⟨?_,fun p hp=>?_⟩
 ·unfold Asc
  rw[List.pairwise_iff_getElem]
  intro i j hi hj l
  have:=step_lt h.2.2.2 j i l hj
  rwa [elF_get hi,elF_get hj] at this
 ·obtain⟨i,hi,rfl⟩:=mem_elF hp
  exact ok_named.1 (h.2.2.2 i hi).1
open Classical in
theorem asc_lt{ps:List TF}(h:Asc ps){i j:Nat}(l:i<j)(hj:j<ps.length):(elF ps i).1<(elF ps j).1:=by
 have:=List.pairwise_iff_getElem.1 h i j (by omega) hj l
 rwa [elF_get (show i<ps.length by omega),elF_get hj]
theorem find_neg{ps:List TF}{nm:Int}(h:findF ps nm<0):∀p∈ps,p.1≠nm:=fun p hp e=>by
 have:0≤findF ps nm:=by
  unfold findF
  have:(ps.findIdx? (fun p=>p.1==nm)).isSome=true:=by
   rw[List.findIdx?_isSome]
   exact List.any_eq_true.2 ⟨p,hp,by simpa using e⟩
  obtain⟨i,hi⟩:=Option.isSome_iff_exists.1 this
  rw[hi]
  simp
 omega
end Pure14
namespace PTab14
open Fil14 DiskH14 SDk14 SOk14 SRd14 SLess14 SPut14 Pure14 TabF14
structure Tl(f:Int→Option TF)(ps:List TF):Prop where
 asc:Asc ps
 nam:Named ps
 iff:∀k q,f k=some q↔q∈ps∧q.1=k
theorem tabN_hit{ps:List TF}(h:Asc ps):∀k,k≤ps.length→∀i,i<k→tabN ps k (elF ps i).1=some (elF ps i)
 |0=>fun _ i hi=>absurd hi (by omega)
 |k+1=>fun hk i hi=>by
  unfold tabN upd
  by_cases e:i=k
  ·subst e
   rw[if_pos rfl]
  ·have:=asc_lt h (i:=i) (j:=k) (by omega) (by omega)
   rw[if_neg (by omega)]
   exact tabN_hit h k (by omega) i (by omega)
theorem tabN_in{ps:List TF}:∀k,k≤ps.length→∀j q,tabN ps k j=some q→q∈ps∧q.1=j
 |0=>fun _ j q e=>by simp[tabN] at e
 |k+1=>fun hk j q e=>by
  unfold tabN upd at e
  by_cases c:j=(elF ps k).1
  ·rw[if_pos c] at e
   have e':elF ps k=q:=by simpa using e
   rw[←e']
   exact⟨elF_mem (by omega),c.symm⟩
  ·rw[if_neg c] at e
   exact tabN_in k (by omega) j q e
theorem tl_tab{ps:List TF}(h:Asc ps)(hn:Named ps):Tl (tabOf ps) ps:=by
 refine⟨h,hn,fun k q=>⟨fun e=>tabN_in _ (Nat.le_refl _) k q e,fun⟨m,e⟩=>?_⟩⟩
 obtain⟨i,hi,rfl⟩:=mem_elF m
 rw[←e]
 exact tabN_hit h _ (Nat.le_refl _) i hi
theorem tl_no{f:Int→Option TF}{ps:List TF}(h:Tl f ps){nm:Int}(e:findF ps nm<0):f nm=none:=by
 cases q:f nm with
 |none=>rfl
 |some p=>
  have:=(h.iff nm p).1 q
  exact absurd this.2 (find_neg e p this.1)
theorem tl_yes{f:Int→Option TF}{ps:List TF}(h:Tl f ps){nm:Int}{k:Nat}(hk:k<ps.length)(e:(elF ps k).1=nm):f nm=some (elF ps k):=(h.iff _ _).2 ⟨elF_mem hk,e⟩
theorem tl_ok{room:Int}{ps:List TF}(h:OkD room ps):Tl (tabOf ps) ps:=tl_tab (asc_of h).1 (asc_of h).2
theorem wf_names{room:Int}{ps:List TF}(h:OkD room ps):∀i,i<ps.length→Wf (elF ps i).1:=fun i hi=>wf_ok (h.2.2.2 i hi).1
theorem el_size{ps:List TF}(hz:sumZ ps≤1048576){k:Nat}(hk:k<ps.length):(elF ps k).2.1.size+(elF ps k).2.2.size≤1048576:=by
 have:=sumZ_next hk
 have:=sumZ_le ps (k+1)
 omega
end PTab14
namespace ICom14
open Fil14 OpensF14 DiskH14 DkH14 SDk14 SOk14 SRd14 SLess14 SCom14 TabF14 ITb14
theorem iOkB(w:World)(x:Dx)(b:Bool)(hr:RdD w x)(hz:sumZ x.ps≤1048576)(h:decide (OkD x.room x.ps)=b):Calls Tryz.prog 38 #[.agg #[.int .i64 x.room,.slice x.a x.ps.length x.c]] w fun e w'=>e= .returned (.bool b)∧Below w.heap.size w w':=by
 rw[←h]
 exact IOk14.iDiskOk w x hr hz
structure St(w u:World)(x:Dx)(B n:Nat)(f:Int→Option TF):Prop where
 d:Wd w u x
 r:Bc u w.heap.size (w.heap.size+1) (.int .i64 0) (.slice none 0 0)
 t:Tf u B n f
 b:w.heap.size+2≤B
 xa:∀g,x.a=some ⟨g,0,none⟩→g<w.heap.size
theorem St.step{w u u':World}{x:Dx}{B n:Nat}{f:Int→Option TF}(h:St w u x B n f)(k:Below u.heap.size u u'):St w u' x B n f:=
 ⟨h.d.step k,h.r.below k h.r.lt.2,h.t.below k,h.b,h.xa⟩
theorem St.turn{w u u':World}{x:Dx}{B n n':Nat}{f f':Int→Option TF}(h:St w u x B n f)(t:Tf u' B n' f')(g:u.grownBy u' (some B)):St w u' x B n' f':=by
 have hb:=h.b
 exact⟨wd_grown h.d g (by omega) (fun k e=>by have:=h.xa k e;omega),h.r.kept g (by simp;omega),t,hb,h.xa⟩
end ICom14
namespace IRd14
open Fil14 OpensF14 DiskH14 DkH14 SDk14 SOk14 SRd14 App14 SLess14 SCom14 SPut14 TabF14 PTab14 IFile14 ITb14 ICom14
theorem iDiskRead(w:World)(x:Dx)(nm:Int)(hr:RdD w x)(hz:sumZ x.ps≤1048576)(hw:Wf nm):Calls Tryz.prog 20 #[.agg #[.int .i64 x.room,.slice x.a x.ps.length x.c],.int .i64 nm] w fun e w'=>e= .returned (.tuple #[.string (readD x.room x.ps nm).1,.bool (readD x.room x.ps nm).2])∧Below w.heap.size w w':=by
 have W0:=zh (Wd.made hr 39)
 have OK0:=zh (fun b h=>iOkB _ x b (zu W0).r hz h)
 have RE:=zh (show readD x.room x.ps nm=if OkD x.room x.ps∧0≤findF x.ps nm then(bytesAt x.ps (findF x.ps nm).toNat,true) else(ByteArray.empty,false) from rfl)
 have WF:=zh hw
 generalize readD x.room x.ps nm=rr at *
 clear hr hw
 by_cases ok:OkD x.room x.ps
 case neg=>
  obtain rfl:rr=(ByteArray.empty,false):=by rw[zu RE,if_neg (fun h=>ok h.1)]
  have OKD:=zh (decide_eq_false ok)
  clear ok RE
  go_enter Tryz.func20,Tryz.ntmps20
  go_wp2_with fail
  refine((zu OK0) false (zu OKD)).mono ?_
  rintro e u ⟨rfl,b1⟩
  have B:=zh ((zu W0).b.trans (b1.mono (zu W0).b.size))
  clear b1 W0 OK0
  go_wp2
  go_ret2
  exact⟨rfl,zu B⟩
 have OKD:=zh (decide_eq_true ok)
 have TL:=zh (tl_ok ok)
 have WN:=zh (wf_names ok)
 obtain⟨p,b,fn,HP,HI,SZ⟩:∃(p:TF) (b:Bool),rr=(p.2.1++p.2.2,b)∧(tabOf x.ps nm).getD z0=p∧(tabOf x.ps nm).isSome=b∧p.2.1.size+p.2.2.size≤1048576:=by
  by_cases q:findF x.ps nm<0
  ·have FN:=tl_no (zu TL) q
   exact⟨z0,false,by rw[zu RE,if_neg (by omega)];rfl,by rw[FN];rfl,by rw[FN];rfl,by simp⟩
  ·obtain⟨k,ek,kl,en⟩:=findF_in (ps:=x.ps) (nm:=nm) (by omega)
   have FY:=tl_yes (zu TL) kl en
   exact⟨elF x.ps k,true,by rw[zu RE,if_pos ⟨ok,by omega⟩,ek];rfl,by rw[FY];rfl,by rw[FY];rfl,el_size hz kl⟩
 subst fn
 obtain⟨p0,p1,p2⟩:=p
 have HP:=zh HP
 have HI:=zh HI
 clear ok RE TL
 simp only at SZ
 go_enter Tryz.func20,Tryz.ntmps20
 go_wp2_with fail
 refine((zu OK0) true (zu OKD)).mono ?_
 rintro e u ⟨rfl,b1⟩
 have WU:=zh ((zu W0).step b1)
 clear b1 W0 OK0
 have c0:=(zu WU).c0
 have c1:=(zu WU).c1
 have lt:=(zu WU).lt
 go_wp2_with fail
 refine(iTable _ x (zu WU).r (zu WN)).mono ?_
 rintro e u1 ⟨rfl,tt,b2⟩
 have T1:=zh tt
 have B1:=zh (((zu WU).b.trans (b2.mono (zu WU).b.size)).trans ((one_more u1 (.cells #[.int .i64 p0,.string p1,.string p2] 66)).mono (Nat.le_trans (zu WU).b.size b2.size)))
 clear tt b2 WU c0 c1 lt
 go_wp2_with (first|(at_lookup;refine wp_have _ rfl _ _ rfl (u.heap.size+1) _ _ rfl (zu T1) nm rfl (zu WF) _ b (zu HP) (zu HI) ?_)|fail)
 refine(iText _ p0 p1 p2 SZ).mono ?_
 rintro e u3 ⟨rfl,b3⟩
 have B3:=zh ((zu B1).trans (b3.mono (zu B1).size))
 clear b3
 go_wp2
 go_ret2
 exact⟨rfl,zu B3⟩
end IRd14
namespace IRd11
open SBytes SPut11
abbrev Pl(w:World)(base p:Nat)(x:Int):Prop:=Ints.Own w base p 1 1 [x]
theorem Pl.cell{w:World}{base p:Nat}{x:Int}(h:Pl w base p x):w.cell? ⟨p,0,none⟩=some (.int .i64 x):=h.at 0 (by simp)
theorem pl_box(w:World)(base:Nat){g:Nat}(x:Int)(hb:base≤w.heap.size)(hg:g=w.heap.size):Pl (w.alloc (.cells #[.int .i64 x] 3)) base g x:=by
 subst hg
 exact World.ownsRow_lit w #[.int .i64 x] 1 hb (by decide) rfl
theorem pl_alloc{w:World}{base p:Nat}{x:Int}(h:Pl w base p x)(o:Obj):Pl (w.alloc o) base p x:=World.ownsRow.alloc h o
theorem grow_below{w w1 w2:World}{row:Option Nat}(h:w.grownBy w1 row)(k:Below w1.heap.size w1 w2):w.grownBy w2 row:=
 ⟨k.os.trans h.os,k.tape.trans h.tape,k.output.trans h.output,Nat.le_trans h.size k.size,fun i hi hr=>(k.block i (Nat.lt_of_lt_of_le hi h.size)).trans (h.block i hi hr)⟩
theorem grow_grow{w w1 w2:World}{row:Option Nat}(h:w.grownBy w1 row)(k:w1.grownBy w2 row):w.grownBy w2 row:=
 ⟨k.os.trans h.os,k.tape.trans h.tape,k.output.trans h.output,Nat.le_trans h.size k.size,fun i hi hr=>(k.block i (Nat.lt_of_lt_of_le hi h.size) hr).trans (h.block i hi hr)⟩
theorem pl_set{w:World}{base p:Nat}{x:Int}(h:Pl w base p x)(y:Int):Pl (w.setCell ⟨p,0,none⟩ (.int .i64 y)) base p y∧w.grownBy (w.setCell ⟨p,0,none⟩ (.int .i64 y)) (some p):=Ints.Own.set h 0 y
section
variable {oz:Nat}
theorem iTake_low(w:World)(gl cl p base n:Nat)(x many:Int)(h:x<0)(hp:Pl w base p x):
  Calls Tryz.prog 42 #[.agg #[.slice (some ⟨gl,oz,none⟩) n cl,.pointer (some ⟨p,0,none⟩)],.int .i64 many] w fun e w'=>e= .returned (.tuple #[.slice none 0 0,.bool false])∧Below w.heap.size w w':=by
 have pc:=hp.cell
 have pl:=hp.lt.2
 clear hp
 go_enter Tryz.func42,Tryz.ntmps42
 go_wp2
 go_ret2
 exact⟨rfl,one_more _ _⟩
theorem iTake_no(w:World)(gl cl p base n:Nat)(x many:Int)(h:0≤x)(hx:x≤9223372036854775807)(hn:n≤1048576)(hm:(n:Int) -x<many)(hp:Pl w base p x):
  Calls Tryz.prog 42 #[.agg #[.slice (some ⟨gl,oz,none⟩) n cl,.pointer (some ⟨p,0,none⟩)],.int .i64 many] w fun e w'=>e= .returned (.tuple #[.slice none 0 0,.bool false])∧Below w.heap.size w w':=by
 have pc:=hp.cell
 have pl:=hp.lt.2
 clear hp
 go_enter Tryz.func42,Tryz.ntmps42
 go_wp2
 go_ret2
 exact⟨rfl,one_more _ _⟩
theorem iTake_yesO(w:World)(gl cl p base n k m:Nat)(hc:n≤cl)(hn:n≤1048576)(h1:1≤m)(hm:k+m≤n)(hp:Pl w base p k):
  Calls Tryz.prog 42 #[.agg #[.slice (some ⟨gl,oz,none⟩) n cl,.pointer (some ⟨p,0,none⟩)],.int .i64 m] w fun e w'=>∃c,e= .returned (.tuple #[.slice (some ⟨gl,oz+k,none⟩) m c,.bool true])∧m≤c∧Pl w' base p (k+m)∧w.grownBy w' (some p):=by
 have pc:=hp.cell
 have pl:=hp.lt.2
 have pf:=hp.free 0
 have PP:=zh hp
 have ck:¬cl=k:=by omega
 clear hp
 go_enter Tryz.func42,Tryz.ntmps42
 go_wp2
 go_region
 go_wp2
 go_ret2
 have e:k+m-k=m:=by omega
 obtain⟨s1,s2⟩:=pl_set (zu PP) (k+m)
 exact⟨cl-k,by show Ending.returned (.tuple #[.slice (some ⟨gl,oz+k,none⟩) (k+m-k) (cl-k),.bool true])=_;rw[e],by omega,pl_alloc s1 _,grow_below s2 (one_more _ _).drew⟩
def NumSaid(r:Int×Int×Bool)(w:World)(base p:Nat)(e:Ending)(w':World):Prop:=
 ∃v q,e= .returned (.tuple #[.int .i64 v,.bool r.2.2])∧(r.2.2=true→v=r.1∧q=r.2.1)∧Pl w' base p q∧w.grownBy w' (some p)
theorem NumSaid.no{w w':World}{base p:Nat}{e:Ending}(v q:Int)(h:e= .returned (.tuple #[.int .i64 v,.bool false]))(hp:Pl w' base p q)(hg:w.grownBy w' (some p)):NumSaid (0,0,false) w base p e w':=⟨v,q,h,by simp,hp,hg⟩
theorem NumSaid.yes{w w':World}{base p:Nat}{e:Ending}{v q:Int}(v' q':Int)(h:e= .returned (.tuple #[.int .i64 v',.bool true]))(hv:v'=v)(hq:q'=q)(hp:Pl w' base p q')(hg:w.grownBy w' (some p)):NumSaid (v,q,true) w base p e w':=⟨v',q',h,fun _=>⟨hv,hq⟩,hp,hg⟩
theorem AtBO.grown{w w':World}{g o p:Nat}{xs:List Int}(h:AtBO w g o xs)(k:w.grownBy w' (some p))(hg:g<w.heap.size)(hp:g≠p):AtBO w' g o xs:=
 fun i hi=>⟨(World.cell?_of_block (w:=w) (k.block g hg (by simpa using hp))).trans (h i hi).1,(h i hi).2⟩
theorem rd_box(w:World)(a b:Value):(w.alloc (.cells #[a,b] 92)).cell? ⟨w.heap.size,0,none⟩=some a∧(w.alloc (.cells #[a,b] 92)).cell? ⟨w.heap.size,1,none⟩=some b:=by simp
theorem cell_grown{w w':World}{p:Nat}(k:w.grownBy w' (some p)){g:Nat}(o:Nat)(hg:g<w.heap.size)(hp:g≠p):w'.cell? ⟨g,o,none⟩=w.cell? ⟨g,o,none⟩:=
 World.cell?_of_block (w:=w) (k.block g hg (by simpa using hp))
theorem iNum_low(w:World)(gl cl p base:Nat)(xs:List Int)(x:Int)(h:x<0)(hp:Pl w base p x):
  Calls Tryz.prog 41 #[.agg #[.slice (some ⟨gl,oz,none⟩) xs.length cl,.pointer (some ⟨p,0,none⟩)]] w (NumSaid (getN xs x) w base p):=by
 have e:getN xs x=(0,0,false):=by unfold getN;rw[if_pos (.inl h)]
 have PP:=zh hp
 clear hp
 rw[e]
 go_enter Tryz.func41,Tryz.ntmps41
 go_wp2
 go_loopw [4,5,6,7,8] (fun _ _ _ _ i wr=>i= .int .i64 0∧wr=w.alloc (.cells #[.slice (some ⟨gl,oz,none⟩) xs.length cl,.pointer (some ⟨p,0,none⟩)] 92)) (fun _ _ _ _ _ _=>0)
 case atStart=>exact⟨rfl,rfl⟩
 case round=>
  obtain⟨rfl,rfl⟩:=hrel
  go_wp2_with fail
  refine(iTake_low _ gl cl p base xs.length x 1 h (pl_alloc (zu PP) _)).mono ?_
  rintro e u ⟨rfl,b1⟩
  have B1:=zh b1
  clear b1
  go_wp2
  go_ret2
  have b:=(one_more w _).trans ((zu B1).mono (by simp))
  exact .no 0 x rfl ((zu PP).below b (zu PP).lt.2) (grow_below (World.grownBy.refl _ _) b)
theorem iNum_far(w:World)(gl cl p base:Nat)(xs:List Int)(x:Int)(h0:0≤x)(h:(xs.length:Int)≤x)(hx:x≤9223372036854775807)(h20:xs.length≤1048576)(hp:Pl w base p x):
  Calls Tryz.prog 41 #[.agg #[.slice (some ⟨gl,oz,none⟩) xs.length cl,.pointer (some ⟨p,0,none⟩)]] w (NumSaid (getN xs x) w base p):=by
 have e:getN xs x=(0,0,false):=by unfold getN;rw[if_pos (.inr h)]
 have PP:=zh hp
 clear hp
 rw[e]
 go_enter Tryz.func41,Tryz.ntmps41
 go_wp2
 go_loopw [4,5,6,7,8] (fun _ _ _ _ i wr=>i= .int .i64 0∧wr=w.alloc (.cells #[.slice (some ⟨gl,oz,none⟩) xs.length cl,.pointer (some ⟨p,0,none⟩)] 92)) (fun _ _ _ _ _ _=>0)
 case atStart=>exact⟨rfl,rfl⟩
 case round=>
  obtain⟨rfl,rfl⟩:=hrel
  go_wp2_with fail
  refine(iTake_no _ gl cl p base xs.length x 1 h0 hx h20 (by omega) (pl_alloc (zu PP) _)).mono ?_
  rintro e u ⟨rfl,b1⟩
  have B1:=zh b1
  clear b1
  go_wp2
  go_ret2
  have b:=(one_more w _).trans ((zu B1).mono (by simp))
  exact .no 0 x rfl ((zu PP).below b (zu PP).lt.2) (grow_below (World.grownBy.refl _ _) b)
theorem shl_is(d:Int)(k:Nat)(h0:0≤d)(h1:d≤127)(hk:k≤8):wrap64 (d*2^(7*k))=d*128^k:=by
 have e:(128:Int)^k=2^(7*k):=by rw[show(128:Int)=2^7 by decide,←Int.pow_mul]
 rw[←e]
 have p:=pow_le k hk
 have m0:=Int.mul_nonneg h0 (Int.le_trans (by decide) p.1)
 have m1:=Int.mul_le_mul_of_nonneg_right h1 (Int.le_trans (by decide) p.1)
 rw[wrap64]
 omega
theorem or_is(v d:Int)(k:Nat)(hk:k≤8)(h0:0≤d)(h1:d≤127)(v0:0≤v)(v1:v<128^k):bits .or .i64 v (d*128^k)=v+d*128^k:=by
 have e:(128:Int)^k=2^(7*k):=by rw[show(128:Int)=2^7 by decide,←Int.pow_mul]
 have p:=pow_le k hk
 have m0:=Int.mul_nonneg h0 (Int.le_trans (by decide) p.1)
 have m1:=Int.mul_le_mul_of_nonneg_right h1 (Int.le_trans (by decide) p.1)
 refine bits_join_low .i64 63 (by decide) (fun n a b=>by rw[IntKind.wrap_i64];omega) (7*k) v _ v0 (by rw[←e];exact v1) (by omega) m0 ?_ (by omega)
 rw[e]
 exact Int.mul_emod_left _ _
theorem iNum_in(w:World)(gl cl p base:Nat)(xs:List Int)(n:Nat)(h:n<xs.length)(h20:xs.length≤1048576)(hc:xs.length≤cl)(hg:gl<base)(hr:AtBO w gl oz xs)(hp:Pl w base p n):
  Calls Tryz.prog 41 #[.agg #[.slice (some ⟨gl,oz,none⟩) xs.length cl,.pointer (some ⟨p,0,none⟩)]] w (NumSaid (getN xs n) w base p):=by
 have E0:=zh (show getN xs n=getF xs n 9 0 from by unfold getN;rw[if_neg (by omega)];simp)
 generalize getN xs n=r at *
 obtain⟨r0,r1,r2⟩:=r
 obtain⟨l0,l1⟩:=hp.lt
 have G0:=zh (show w.grownBy (w.alloc (.cells #[.slice (some ⟨gl,oz,none⟩) xs.length cl,.pointer (some ⟨p,0,none⟩)] 92)) (some p) from grow_below (World.grownBy.refl _ _) (one_more _ _))
 have C0:=zh (rd_box w (.slice (some ⟨gl,oz,none⟩) xs.length cl) (.pointer (some ⟨p,0,none⟩)))
 have P0:=zh (show Pl (w.alloc (.cells #[.slice (some ⟨gl,oz,none⟩) xs.length cl,.pointer (some ⟨p,0,none⟩)] 92)) base p ((n+(0:Nat):Nat):Int) from pl_alloc hp _)
 have R:=zh hr
 have S0:=zh (show w.heap.size+1≤(w.alloc (.cells #[.slice (some ⟨gl,oz,none⟩) xs.length cl,.pointer (some ⟨p,0,none⟩)] 92)).heap.size from by simp)
 clear hr hp
 go_enter Tryz.func41,Tryz.ntmps41
 go_wp2
 go_loopw [4,5,6,7,8] (fun a _ _ _ i wr=>∃(k:Nat) (v:Int),k≤9∧i= .int .i64 k∧a= .int .i64 v∧Hid (v=val xs n k)∧Hid ((r0,r1,r2)=getF xs n (9-k) k)∧Hid (Pl wr base p ((n+k:Nat):Int))∧Hid (w.grownBy wr (some p))∧Hid (wr.cell? ⟨w.heap.size,0,none⟩=some (.slice (some ⟨gl,oz,none⟩) xs.length cl)∧wr.cell? ⟨w.heap.size,1,none⟩=some (.pointer (some ⟨p,0,none⟩)))∧Hid (w.heap.size+1≤wr.heap.size)) (fun _ _ _ _ i _=>9-(intOf i).toNat)
 case atStart=>exact⟨0,0,by omega,rfl,rfl,rfl,E0,P0,G0,C0,S0⟩
 case round=>
  clear E0 P0 G0 C0 S0
  obtain⟨k,v,hk,rfl,rfl,HV,HE,HP,HG,HC,HS⟩:=hrel
  have bs:=zu HS
  obtain⟨c0,c1⟩:=zu HC
  by_cases t:k<9
  case neg=>
   have e:k=9:=by omega
   subst e
   have F:(r0,r1,r2)=(0,0,false):=zu HE
   injection F with F0 F
   injection F with F1 F2
   subst F0 F1 F2
   clear HE
   go_wp2
   go_ret2
   exact .no 0 _ rfl (zu HP) (zu HG)
  have F:=zu HE
  rw[show 9-k=(8-k)+1 by omega] at F
  simp only[getF] at F
  have HF:=zh F
  clear HE F
  have k9:(k:Int)<9:=by omega
  by_cases q:n+k<xs.length
  case neg=>
   have F:=zu HF
   rw[if_neg q] at F
   injection F with F0 F
   injection F with F1 F2
   subst F0 F1 F2
   clear HF
   go_wp2_with fail
   refine(iTake_no _ gl cl p base xs.length _ 1 (by omega) (by omega) h20 (by omega) (zu HP)).mono ?_
   rintro e u ⟨rfl,b1⟩
   have B1:=zh b1
   clear b1
   go_wp2
   go_ret2
   exact .no 0 _ rfl ((zu HP).below (zu B1) (zu HP).lt.2) (grow_below (zu HG) (zu B1))
  obtain⟨_,d0,d1⟩:=(zu R) (n+k) q
  have vi:=val_in xs n k
  rw[←zu HV] at vi
  have SO:=zh (show bits .or .i64 v (wrap64 (xs.getD (n+k) 0%128*2^(7*k)))=val xs n (k+1) from by
   rw[shl_is _ k (by omega) (by omega) (by omega),or_is v _ k (by omega) (by omega) (by omega) vi.1 vi.2,zu HV];rfl)
  clear vi
  have VI:=zh (val_in xs n (k+1))
  go_wp2_with fail
  refine(iTake_yesO _ gl cl p base xs.length (n+k) 1 hc h20 (by omega) (by omega) (zu HP)).mono ?_
  rintro e u ⟨c,rfl,hc1,p1,g1⟩
  have P1:=zh p1
  have G1:=zh (grow_grow (zu HG) g1)
  have D:=zh ((AtBO.grown (zu R) (zu G1) (by omega) (by omega)) (n+k) q)
  have C1:=zh (And.intro ((cell_grown g1 0 bs (by omega)).trans c0) ((cell_grown g1 1 bs (by omega)).trans c1))
  have us:=g1.size
  clear p1 g1
  obtain⟨dc,_⟩:=zu D
  have F:=zu HF
  rw[if_pos q] at F
  clear HF D VI HC c0 c1 HP HG HS
  generalize xs.getD (n+k) 0=d at *
  by_cases m:d<128
  ·rw[if_pos m] at F
   by_cases z:d=0
   ·subst z
    by_cases k0:k=0
    ·have kb:((k:Int)==0)=true:=by simp[k0]
     rw[if_neg (by omega)] at F
     injection F with F0 F
     injection F with F1 F2
     subst F0 F1 F2
     have K0:=zh k0
     clear k0
     go_wp2
     go_ret2
     exact .yes _ _ rfl (by simpa[wrap64] using zu SO) (by simp) (zu P1) (zu G1)
    ·have kb:((k:Int)==0)=false:=by simp[k0]
     rw[if_pos (by omega)] at F
     injection F with F0 F
     injection F with F1 F2
     subst F0 F1 F2
     have K0:=zh k0
     clear k0
     go_wp2
     go_ret2
     exact .no _ _ rfl (zu P1) (zu G1)
   ·rw[if_neg (by omega)] at F
    injection F with F0 F
    injection F with F1 F2
    subst F0 F1 F2
    go_wp2
    go_ret2
    exact .yes _ _ rfl (zu SO) (by simp) (zu P1) (zu G1)
  ·rw[if_neg m] at F
   have HF:=zh F
   clear F
   go_wp2
   go_roundw
   case rel=>exact⟨k+1,_,by omega,by go_num,rfl,SO,by rw[show 9-(k+1)=8-k by omega];exact HF,zh (by have:=zu P1;rw[show((n+(k+1):Nat):Int)=((n+k:Nat):Int)+((1:Nat):Int) by omega];exact this),G1,C1,zh (by omega)⟩
   case measure=>simp[intOf];omega
theorem iNumO(w:World)(gl cl p base:Nat)(xs:List Int)(x:Int)(hx:x≤9223372036854775807)(h20:xs.length≤1048576)(hc:xs.length≤cl)(hg:gl<base)(hr:AtBO w gl oz xs)(hp:Pl w base p x):
  Calls Tryz.prog 41 #[.agg #[.slice (some ⟨gl,oz,none⟩) xs.length cl,.pointer (some ⟨p,0,none⟩)]] w (NumSaid (getN xs x) w base p):=by
 by_cases h0:x<0
 ·exact iNum_low w gl cl p base xs x h0 hp
 by_cases h1:(xs.length:Int)≤x
 ·exact iNum_far w gl cl p base xs x (by omega) h1 hx h20 hp
 obtain⟨n,rfl⟩:∃n:Nat,x=n:=⟨x.toNat,by omega⟩
 exact iNum_in w gl cl p base xs n (by omega) h20 hc hg hr hp
end
theorem iTake_yes(w:World)(gl cl p base n k m:Nat)(hc:n≤cl)(hn:n≤1048576)(h1:1≤m)(hm:k+m≤n)(hp:Pl w base p k):
  Calls Tryz.prog 42 #[.agg #[.slice (some ⟨gl,0,none⟩) n cl,.pointer (some ⟨p,0,none⟩)],.int .i64 m] w fun e w'=>∃c,e= .returned (.tuple #[.slice (some ⟨gl,k,none⟩) m c,.bool true])∧m≤c∧Pl w' base p (k+m)∧w.grownBy w' (some p):=by
 refine(iTake_yesO (oz:=0) w gl cl p base n k m hc hn h1 hm hp).mono ?_
 rintro e u ⟨c,he,h2,h3,h4⟩
 rw[Nat.zero_add] at he
 exact⟨c,he,h2,h3,h4⟩
theorem iNum(w:World)(gl cl p base:Nat)(xs:List Int)(x:Int)(hx:x≤9223372036854775807)(h20:xs.length≤1048576)(hc:xs.length≤cl)(hg:gl<base)(hr:AtB w gl xs)(hp:Pl w base p x):
  Calls Tryz.prog 41 #[.agg #[.slice (some ⟨gl,0,none⟩) xs.length cl,.pointer (some ⟨p,0,none⟩)]] w (NumSaid (getN xs x) w base p):=iNumO w gl cl p base xs x hx h20 hc hg (.of hr) hp
theorem getF_no(xs:List Int)(q:Nat):∀f k,(getF xs q f k).2.2=false→getF xs q f k=(0,0,false)
 |0,k=>fun _=>rfl
 |f+1,k=>by
  intro h
  simp only[getF] at h⊢
  by_cases a:q+k<xs.length
  ·rw[if_pos a] at h⊢
   by_cases b:xs.getD (q+k) 0<128
   ·rw[if_pos b] at h⊢
    by_cases c:xs.getD (q+k) 0=0∧0<k
    ·rw[if_pos c]
    ·rw[if_neg c] at h;simp at h
   ·rw[if_neg b] at h⊢
    exact getF_no xs q f (k+1) h
  ·rw[if_neg a]
theorem getN_no(xs:List Int)(x:Int)(h:(getN xs x).2.2=false):getN xs x=(0,0,false):=by
 unfold getN at h⊢
 by_cases a:x<0∨(xs.length:Int)≤x
 ·rw[if_pos a]
 ·rw[if_neg a] at h⊢
  exact getF_no xs _ 9 0 h
end IRd11
namespace ICheck11
open SBytes
theorem iCheckO(w:World)(g o cap:Nat)(xs:List Int)(h20:xs.length≤1048576)(hr:AtBO w g o xs):
  Calls Tryz.prog 77 #[.slice (some ⟨g,o,none⟩) xs.length cap] w fun e w'=>e= .returned (.int .i64 (65536*(chk xs xs.length).2+(chk xs xs.length).1))∧w'=w:=by
 have R:=zh hr
 clear hr
 go_enter Tryz.func77,Tryz.ntmps77
 go_wp2
 go_loopw [3,4,6,9] (fun a b _ i wr=>∃(k:Nat) (x y:Int),k≤xs.length∧i= .int .i64 k∧a= .int .i64 x∧b= .int .i64 y∧Hid ((x,y)=chk xs k)∧wr=w) (fun _ _ _ i _=>xs.length-(intOf i).toNat)
 case atStart=>exact⟨0,0,0,by omega,rfl,rfl,rfl,rfl,rfl⟩
 case round=>
  obtain⟨k,x,y,hk,rfl,rfl,rfl,HC,rfl⟩:=hrel
  have q:=chk_in xs k
  rw[←zu HC] at q
  obtain⟨q0,q1,q2,q3⟩:=q
  simp only at q0 q1 q2 q3
  by_cases t:k<xs.length
  ·obtain⟨d,d0,d1⟩:=(zu R) k t
   have N:=zh (show((x+xs.getD k 0+1)%65535,(y+(x+xs.getD k 0+1)%65535)%65535)=chk xs (k+1) from by simp only[chk];rw[←zu HC];rfl)
   clear HC
   generalize xs.getD k 0=v at *
   have a1:wrap64 (x+v)=x+v:=by rw[wrap64];omega
   have a2:wrap64 (x+v+1)=x+v+1:=by rw[wrap64];omega
   have a3:(x+v+1).tmod 65535=(x+v+1)%65535:=tmod_pos _ (by omega)
   have m1:0≤(x+v+1)%65535∧(x+v+1)%65535<65535:=by omega
   generalize (x+v+1)%65535=m at *
   have a4:wrap64 m=m:=by rw[wrap64];omega
   have a5:wrap64 (y+m)=y+m:=by rw[wrap64];omega
   have a6:(y+m).tmod 65535=(y+m)%65535:=tmod_pos _ (by omega)
   have m2:0≤(y+m)%65535∧(y+m)%65535<65535:=by omega
   generalize (y+m)%65535=n at *
   have a7:wrap64 n=n:=by rw[wrap64];omega
   have a8:wrap64 v=v:=by rw[wrap64];omega
   go_wp2
   go_roundw
   case rel=>exact⟨k+1,m,n,by omega,by go_num,by simp[a1,a2,a3,a4],by simp[a1,a2,a3,a4,a5,a6,a7],N,trivial⟩
   case measure=>simp[intOf];omega
  ·have e:k=xs.length:=by omega
   subst e
   have a1:wrap64 (65536*y)=65536*y:=by rw[wrap64];omega
   have a2:wrap64 (65536*y+x)=65536*y+x:=by rw[wrap64];omega
   have c1:x=(chk xs xs.length).1:=congrArg Prod.fst (zu HC)
   have c2:y=(chk xs xs.length).2:=congrArg Prod.snd (zu HC)
   have C1:=zh c1
   have C2:=zh c2
   clear c1 c2
   go_wp2
   go_ret
   exact⟨by rw[←zu C1,←zu C2];simp[a1,a2],rfl⟩
end ICheck11
namespace ISum11
open SBytes SPut11
theorem chkB_in(xs:List Int):0≤chkB xs∧chkB xs≤4294967295:=by
 have:=chk_in xs xs.length
 unfold chkB
 omega
def laid(n:Int)(k:Nat):Array Value:= #[.int .u8 (if 0<k then n%256 else 0),.int .u8 (if 1<k then n/256%256 else 0),.int .u8 (if 2<k then n/65536%256 else 0),.int .u8 (if 3<k then n/16777216%256 else 0)]
theorem iSum(w:World)(gl o cl:Nat)(xs:List Int)(h20:xs.length≤1048576)(hg:gl<w.heap.size)(hr:SBytes.AtBO w gl o xs):
  Calls Tryz.prog 43 #[.slice (some ⟨gl,o,none⟩) xs.length cl] w fun e w'=>e= .returned (.agg #[.int .u8 (chkB xs%256),.int .u8 (chkB xs/256%256),.int .u8 (chkB xs/65536%256),.int .u8 (chkB xs/16777216%256)])∧Below w.heap.size w w':=by
 have CK:=zh (fun u h=>ICheck11.iCheckO u gl o cl xs h20 h)
 have R:=zh hr
 have CI:=zh (show 0≤65536*(chk xs xs.length).2+(chk xs xs.length).1∧65536*(chk xs xs.length).2+(chk xs xs.length).1≤4294967295 from chkB_in xs)
 have E:=zh (show chkB xs=65536*(chk xs xs.length).2+(chk xs xs.length).1 from rfl)
 rw[zu E]
 clear hr E
 generalize 65536*(chk xs xs.length).2+(chk xs xs.length).1=n at *
 obtain⟨n0,n1⟩:=zu CI
 go_enter Tryz.func43,Tryz.ntmps43
 go_wp2_with fail
 refine((zu CK) _ ((zu R).below (one_more _ _) hg)).mono ?_
 rintro e u ⟨rfl,rfl⟩
 go_wp2
 go_loopw [5,9] (fun _ i wr=>∃k:Nat,k≤4∧i= .int .i64 k∧wr=(w.alloc (.cells #[.int .u8 0,.int .u8 0,.int .u8 0,.int .u8 0] 98)).alloc (.cells (laid n k) 98)) (fun _ i _=>4-(intOf i).toNat)
 case atStart=>exact⟨0,by omega,rfl,rfl⟩
 case round=>
  obtain⟨k,hk,rfl,rfl⟩:=hrel
  have:k=0∨k=1∨k=2∨k=3∨k=4:=by omega
  rcases this with rfl|rfl|rfl|rfl|rfl
  ·simp only[laid]
   go_wp2
   go_roundw
   case rel=>exact⟨1,by omega,rfl,by first|rfl|simp⟩
   case measure=>simp[intOf]
  ·simp only[laid]
   go_wp2
   go_roundw
   case rel=>exact⟨2,by omega,rfl,by first|rfl|simp⟩
   case measure=>simp[intOf]
  ·simp only[laid]
   go_wp2
   go_roundw
   case rel=>exact⟨3,by omega,rfl,by first|rfl|simp⟩
   case measure=>simp[intOf]
  ·simp only[laid]
   go_wp2
   go_roundw
   case rel=>exact⟨4,by omega,rfl,by
    have e:n/16777216%256=n/16777216:=by omega
    simp[e]⟩
   case measure=>simp[intOf]
  ·simp only[laid]
   go_wp2
   go_returns
   exact⟨rfl,(one_more _ _).trans ((Below.refl _ _).alloc (by simp) _)⟩
end ISum11
namespace EqS11
theorem eqSum(a b c d x y z v:Int)(w:World):(Op.equalIn 10000 98 (.agg #[.int .u8 a,.int .u8 b,.int .u8 c,.int .u8 d]) (.agg #[.int .u8 x,.int .u8 y,.int .u8 z,.int .u8 v])).run Tryz.prog w= .ok (a==x&&b==y&&c==z&&d==v) w:=by
 obtain⟨i0,hi,_⟩:=info_parts ByteH.info8
 have u3:=Tryz.underlying5
 have a3:=Tryz.isAgg5
 have hc:Tryz.prog.cellsOf 5=1:=by kernel_rfl
 rw[show(10000:Nat)=9999+1 from rfl,run_equalIn_array w 9999 _ _ Tryz.underlying98 hi,hc,show List.range 4=[0,1,2,3] from rfl]
 simp only[Op.eqItems]
 go_simp
 by_cases h1:a=x<;>by_cases h2:b=y<;>by_cases h3:c=z<;>by_cases h4:d=v<;>simp[h1,h2,h3,h4]
end EqS11
namespace StepB11
open SBytes SPut11
open ByteH (Own At)
theorem step_catB(u:World){ops:Array Oper}{o:Oper}{a:Act}{K:Act→World→Prop}{Q:Exit→Act→World→Prop}{E:Prop}(hgd:o.guard=none)(s x:Operand)
  (ho:o.op= .call {callee:= .builtin .append,args:= #[s,x],argTypes:= #[49,49]})(base g n cap m:Nat)(xs ys:List Int)(vb off c:Nat)
  (hs:a.eval s= .slice (some ⟨g,0,none⟩) n cap)(hx:a.eval x= .slice (some ⟨vb,off,none⟩) m c)(hown:Own u base g n cap xs)(hl:ys.length=m)(hv:AtO u vb off ys)(hn:n+m≤9223372036854)(hb:base≤u.heap.size)
  (h:∀g' c' w',Own w' base g' (n+m) c' (xs++ys)→u.grownBy w' (some g)→(g'=g∨g'=u.heap.size)→K (a.put o.dst (.slice (some ⟨g',0,none⟩) (n+m) c')) w'):if Region.wanted o (yielded ops a.tmps)=true then Oper.wp Tryz.prog o a u K Q else E:=by
 obtain⟨i0,hi,hz0,hz1,hz2⟩:=info_parts ByteH.info8
 have hw:Region.wanted o (yielded ops a.tmps)=true:=by simp[Region.wanted,hgd]
 rw[if_pos hw]
 obtain⟨v',w',hr,own',gr',nil',loc'⟩:=run_append_own_at (P:=Tryz.prog) u base 49 o.type 5 i0 (.int .u8 0) 1 1 Tryz.underlying49 hi hz0 hz1 hz2 rfl (by decide) (.slice (some ⟨g,0,none⟩) n cap) n (xs.map (Value.int .u8)) hown ⟨vb,off,none⟩ m c (ys.map (Value.int .u8)) (by simp[hl]) (fun j v hj=>by
  have hj':j<ys.length:=by
   have:=(List.getElem?_eq_some_iff.1 hj).1
   simpa using this
  have:=hv j hj'
  rw[Addr.add_lit,this]
  rw[←hj]
  simp[List.getD,hj']) (by intro u hu;obtain⟨y,_,rfl⟩:=List.mem_map.1 hu;simp[Value.oneCell']) (by unfold maxLen;omega) (by omega) hb
 unfold Oper.wp execOp
 simp only[ho,resolve,invoke,builtin,Sem.run_bind,Sem.run_pure,Result.andThen_ok,List.map_toArray,List.map_cons,List.map_nil,hs,hx,hr]
 obtain⟨g',c',rfl,o'⟩:=own_of_row (n':=n+m) (xs:=xs++ys) own' rfl (by simp) (by rw[nil'];simp)
 exact h g' c' w' o' gr' (by simpa[Value.ownBlock] using loc')
end StepB11
namespace IUnseal11
open SBytes SPut11 SUnseal11 IRd11 StepB11
open ByteH (Own At)
abbrev oU0:Oper:={dst:=some 45,op:=Go.Op.load 98 (Go.Operand.tmp 12),type:=98,pos:= "l11_bytes.go:92",after:= #[],guard:=none}
abbrev oU1:Oper:={dst:=some 46,op:=Go.Op.move (Go.Operand.tmp 11),type:=49,pos:= "l11_bytes.go:92",after:= #[],guard:=none}
abbrev oU2:Oper:={dst:=some 47,op:=Go.Op.call {callee:=Go.Callee.value (Go.Operand.func 43),args:= #[Go.Operand.tmp 46],argTypes:= #[49]},type:=98,pos:= "l11_bytes.go:92",after:= #[{on:=1,ground:=Go.Ground.data}],guard:=none}
abbrev oU3:Oper:={dst:=some 48,op:=Go.Op.binOp Go.BinOp.neq 98 (Go.Operand.tmp 45) (Go.Operand.tmp 47) 98,type:=4,pos:= "l11_bytes.go:92",after:= #[{on:=0,ground:=Go.Ground.data},{on:=2,ground:=Go.Ground.data}],guard:=none}
abbrev oV0:Oper:={dst:=some 50,op:=Go.Op.buildSlice 49 0 #[],type:=49,pos:= "l11_bytes.go:95",after:= #[],guard:=none}
abbrev oV1:Oper:={dst:=some 51,op:=Go.Op.move (Go.Operand.tmp 11),type:=49,pos:= "l11_bytes.go:95",after:= #[],guard:=none}
abbrev oV2:Oper:={dst:=some 52,op:=Go.Op.call {callee:=Go.Callee.builtin Go.Builtin.append,args:= #[Go.Operand.tmp 50,Go.Operand.tmp 51],argTypes:= #[49,49]},type:=49,pos:= "l11_bytes.go:95",after:= #[{on:=0,ground:=Go.Ground.data},{on:=1,ground:=Go.Ground.data}],guard:=none}
abbrev oV3:Oper:={dst:=some 53,op:=Go.Op.load 3 (Go.Operand.tmp 3),type:=3,pos:= "l11_bytes.go:95",after:= #[{on:=4,ground:=Go.Ground.gcOnly Go.Departure.lateStores}],guard:=none}
abbrev oV4:Oper:={dst:=some 4,op:=Go.Op.assign (Go.Operand.tmp 52),type:=49,pos:= "l11_bytes.go:95",after:= #[{on:=2,ground:=Go.Ground.data},{on:=2,ground:=Go.Ground.chain},{on:=0,ground:=Go.Ground.phase},{on:=1,ground:=Go.Ground.phase},{on:=2,ground:=Go.Ground.phase},{on:=3,ground:=Go.Ground.textOnly Go.Departure.lateStores}],guard:=none}
abbrev oV5:Oper:={dst:=some 5,op:=Go.Op.assign (Go.Operand.tmp 53),type:=3,pos:= "l11_bytes.go:95",after:= #[{on:=3,ground:=Go.Ground.data},{on:=4,ground:=Go.Ground.chain},{on:=0,ground:=Go.Ground.phase},{on:=1,ground:=Go.Ground.phase},{on:=2,ground:=Go.Ground.phase},{on:=3,ground:=Go.Ground.phase},{on:=4,ground:=Go.Ground.phase}],guard:=none}
abbrev oV6:Oper:={dst:=some 6,op:=Go.Op.assign (Go.Operand.const (Go.Value.int Go.IntKind.i64 0)),type:=3,pos:= "l11_bytes.go:95",after:= #[{on:=5,ground:=Go.Ground.chain},{on:=0,ground:=Go.Ground.phase},{on:=1,ground:=Go.Ground.phase},{on:=2,ground:=Go.Ground.phase},{on:=3,ground:=Go.Ground.phase},{on:=4,ground:=Go.Ground.phase},{on:=5,ground:=Go.Ground.phase}],guard:=none}
theorem iUnsealG(w:World)(gl cl:Nat)(xs:List Int)(p0:Int)(h20:xs.length≤1048576)(hc:xs.length≤cl)(hx:p0≤9223372036854775807)(hg:gl<w.heap.size)(hr:AtB w gl xs):
  Calls Tryz.prog 21 #[.slice (some ⟨gl,0,none⟩) xs.length cl,.int .i64 p0] w fun e w'=>∃g c,e= .returned (.tuple #[.slice (some ⟨g,0,none⟩) (unsealN xs p0).1.length c,.int .i64 (unsealN xs p0).2.1,.int .i64 (unsealN xs p0).2.2])∧Own w' w.heap.size g (unsealN xs p0).1.length c (unsealN xs p0).1∧Below w.heap.size w w':=by
 have R:=zh hr
 have HG:=zh hg
 have GI:=zh (getN_in xs p0)
 have X0:=zh (show Pl ((w.alloc (.cells #[.int .i64 p0] 3)).alloc (.cells #[.slice (some ⟨gl,0,none⟩) xs.length cl,.pointer (some ⟨w.heap.size,0,none⟩)] 92)) w.heap.size w.heap.size p0 from pl_alloc (pl_box w w.heap.size p0 (Nat.le_refl _) rfl) _)
 have B0:=zh ((one_more w (.cells #[.int .i64 p0] 3)).alloc (by simp) (.cells #[.slice (some ⟨gl,0,none⟩) xs.length cl,.pointer (some ⟨w.heap.size,0,none⟩)] 92))
 have C0:=zh (rd_box (w.alloc (.cells #[.int .i64 p0] 3)) (.slice (some ⟨gl,0,none⟩) xs.length cl) (.pointer (some ⟨w.heap.size,0,none⟩)))
 rw[show(w.alloc (.cells #[.int .i64 p0] 3)).heap.size=w.heap.size+1 by simp] at C0
 have S0:=zh (show((w.alloc (.cells #[.int .i64 p0] 3)).alloc (.cells #[.slice (some ⟨gl,0,none⟩) xs.length cl,.pointer (some ⟨w.heap.size,0,none⟩)] 92)).heap.size=w.heap.size+2 from by simp)
 have IN:=zh (iNum _ gl cl w.heap.size w.heap.size xs p0 hx h20 hc hg (hr.below (zu B0) hg) (zu X0))
 obtain⟨r,hq⟩:∃r,Hid (unsealN xs p0=r):=⟨_,rfl⟩
 rw[zu hq]
 unfold unsealN at hq
 clear hr X0
 generalize getN xs p0=y at *
 obtain⟨n,f,ok⟩:=y
 go_enter Tryz.func21,Tryz.ntmps21
 go_wp2_with fail
 refine(zu IN).mono ?_
 rintro e u ⟨v,q,rfl,hv,p1,g1⟩
 have us:=g1.size
 rw[zu S0] at us
 have B1:=zh ((zu B0).grown g1 (by simp;omega) (fun j hj=>by cases hj;exact Nat.le_refl _))
 have P1:=zh p1
 have d0:=(cell_grown g1 0 (g:=w.heap.size+1) (by simp) (by omega)).trans (zu C0).1
 have d1:=(cell_grown g1 1 (g:=w.heap.size+1) (by simp) (by omega)).trans (zu C0).2
 have pc:=p1.cell
 clear p1 g1 IN C0 S0 B0
 cases ok with
 |false=>
  have e:=zu hq
  rw[if_pos (.inl rfl)] at e
  subst e
  have O5:=zh (lit0 u w.heap.size (by omega) rfl)
  have B5:=zh ((zu B1).alloc (by omega) (.cells #[] 5))
  clear hq GI hv pc d0 d1
  go_wp2
  go_ret3
  exact⟨_,0,rfl,zu O5,zu B5⟩
 |true=>
 obtain⟨rfl,rfl⟩:=hv rfl
 obtain⟨g0,g1,g2⟩:=(zu GI) rfl
 clear GI hv
 by_cases n9:9000<v
 ·have e:=zu hq
  rw[if_pos (.inr n9)] at e
  subst e
  have O5:=zh (lit0 u w.heap.size (by omega) rfl)
  have B5:=zh ((zu B1).alloc (by omega) (.cells #[] 5))
  clear hq pc d0 d1
  go_wp2
  go_ret3
  exact⟨_,0,rfl,zu O5,zu B5⟩
 obtain⟨n,rfl⟩:∃n:Nat,v=n:=⟨v.toNat,by omega⟩
 obtain⟨f,rfl⟩:∃f:Nat,q=f:=⟨q.toNat,by omega⟩
 have Q:=zu hq
 rw[if_neg (by simp;omega)] at Q
 simp only[Int.toNat_natCast] at Q
 clear hq
 by_cases s:(xs.length:Int) -f<n+4
 ·rw[if_pos s] at Q
  subst Q
  have D:=zh (And.intro d0 d1)
  clear pc
  go_wp2_with fail
  refine(iTake_no _ gl cl w.heap.size w.heap.size xs.length f (n+4) (by omega) (by omega) h20 s (zu P1)).mono ?_
  rintro e u2 ⟨rfl,b2⟩
  have s2:=b2.size
  have O5:=zh (lit0 u2 w.heap.size (by omega) rfl)
  have B5:=zh (((zu B1).trans (b2.mono (by omega))).alloc (by omega) (.cells #[] 5))
  clear b2
  go_wp2
  go_ret3
  exact⟨_,0,rfl,zu O5,zu B5⟩
 rw[if_neg s] at Q
 have HQ:=zh Q
 clear Q pc
 have TK:=zh (iTake_yes u gl cl w.heap.size w.heap.size xs.length f (n+4) hc h20 (by omega) (by omega) (zu P1))
 rw[show((n+4:Nat):Int)=(n:Int)+4 by omega] at TK
 go_wp2_with fail
 refine(zu TK).mono ?_
 rintro e u2 ⟨c,rfl,hc2,p2,g3⟩
 have s2:=g3.size
 have B2:=zh ((zu B1).grown g3 (by omega) (fun j hj=>by cases hj;exact Nat.le_refl _))
 have pc:=p2.cell
 have A2:=zh ((zu R).below (zu B2) (zu HG))
 clear p2 g3 TK d0 d1
 have z0:=((zu A2) (f+n) (by omega)).1
 have z1:=((zu A2) (f+n+1) (by omega)).1
 have z2:=((zu A2) (f+n+2) (by omega)).1
 have z3:=((zu A2) (f+n+3) (by omega)).1
 obtain⟨v0,V0⟩:∃v,Hid (xs.getD (f+n) 0=v):=⟨_,rfl⟩
 obtain⟨v1,V1⟩:∃v,Hid (xs.getD (f+n+1) 0=v):=⟨_,rfl⟩
 obtain⟨v2,V2⟩:∃v,Hid (xs.getD (f+n+2) 0=v):=⟨_,rfl⟩
 obtain⟨v3,V3⟩:∃v,Hid (xs.getD (f+n+3) 0=v):=⟨_,rfl⟩
 rw[zu V0] at z0
 rw[zu V1] at z1
 rw[zu V2] at z2
 rw[zu V3] at z3
 have cn:¬c=n:=by omega
 have c4:n+4≤c:=hc2
 have gu:gl<u2.heap.size:=by omega
 have hat:∀w,(Instr.arrayAt 98 (.slice (some ⟨gl,f+n,none⟩) 4 (c-n))).run Tryz.prog w= .ok (.pointer (some ⟨gl,f+n,none⟩)) w:=fun w=>run_arrayAt w 98 _ 4 _ 4 _ Tryz.underlying98 (by omega)
 go_wp2
 go_region
 have K0:(u2.alloc (.cells #[.int .u8 v0,.int .u8 v1,.int .u8 v2,.int .u8 v3] 98)).drew.cell? ⟨u2.heap.size,0,none⟩=some (.int .u8 v0)∧(u2.alloc (.cells #[.int .u8 v0,.int .u8 v1,.int .u8 v2,.int .u8 v3] 98)).drew.cell? ⟨u2.heap.size,0+1,none⟩=some (.int .u8 v1)∧(u2.alloc (.cells #[.int .u8 v0,.int .u8 v1,.int .u8 v2,.int .u8 v3] 98)).drew.cell? ⟨u2.heap.size,0+2,none⟩=some (.int .u8 v2)∧(u2.alloc (.cells #[.int .u8 v0,.int .u8 v1,.int .u8 v2,.int .u8 v3] 98)).drew.cell? ⟨u2.heap.size,0+3,none⟩=some (.int .u8 v3):=⟨by simp,by simp,by simp,by simp⟩
 have PL:=zh (piece_len (xs:=xs) (f:=f) (n:=n) (by omega))
 have AP:=zh (show SBytes.AtBO u2 gl f (piece xs f n) from fun i hi=>by
  rw[zu PL] at hi
  rw[piece_get hi]
  exact(zu A2) (f+i) (by omega))
 have SM:=zh (fun u hg h=>ISum11.iSum u gl f c (piece xs f n) (by rw[zu PL];omega) hg h)
 have CI:=ISum11.chkB_in (piece xs f n)
 rw[zu PL] at SM
 have w0:=((zu A2) (f+n) (by omega)).2
 have w1:=((zu A2) (f+n+1) (by omega)).2
 have w2:=((zu A2) (f+n+2) (by omega)).2
 have w3:=((zu A2) (f+n+3) (by omega)).2
 rw[zu V0] at w0
 rw[zu V1] at w1
 rw[zu V2] at w2
 rw[zu V3] at w3
 have HQ2:=zu HQ
 unfold fourN at HQ2
 rw[zu V0,zu V1,zu V2,zu V3] at HQ2
 clear HQ z0 z1 z2 z3 hat
 generalize chkB (piece xs f n)=z at *
 by_cases E:z=v0+v1*256+v2*65536+v3*16777216
 ·rw[if_pos E] at HQ2
  have e0:z%256=v0:=by omega
  have e1:z/256%256=v1:=by omega
  have e2:z/65536%256=v2:=by omega
  have e3:z/16777216%256=v3:=by omega
  rw[e0,e1,e2,e3] at SM
  have EQ:∀w:World,(Op.equalIn 10000 98 (.agg #[.int .u8 v0,.int .u8 v1,.int .u8 v2,.int .u8 v3]) (.agg #[.int .u8 v0,.int .u8 v1,.int .u8 v2,.int .u8 v3])).run Tryz.prog w= .ok true w:=fun w=>by rw[EqS11.eqSum];simp
  have QQ:=zh HQ2
  clear e0 e1 e2 e3 E CI w0 w1 w2 w3 HQ2
  go_wp2_with fail
  refine wp_region_held_drew (S:=(fun w'=>w'.cell? ⟨u2.heap.size,0,none⟩=some (.int .u8 v0)∧w'.cell? ⟨u2.heap.size,0+1,none⟩=some (.int .u8 v1)∧w'.cell? ⟨u2.heap.size,0+2,none⟩=some (.int .u8 v2)∧w'.cell? ⟨u2.heap.size,0+3,none⟩=some (.int .u8 v3))) (by kernel_rfl) K0 (fun hHeld=>?_)
  refine tk 0 oU0 (.agg #[.int .u8 v0,.int .u8 v1,.int .u8 v2,.int .u8 v3]) rfl (by kernel_rfl) (fun _ _ _ h=>h) (by rfl) (fun w hSw=>?_) hHeld ?_
  ·(try dsimp only at hSw)
   unfold oU0
   go_simp
  try simp only[oU0,Act.put,zA,zB,zC]
  refine tk 1 oU1 (.slice (some ⟨gl,f,none⟩) n c) rfl (by kernel_rfl) (fun _ _ _ h=>h) (by rfl) (fun w hSw=>?_) hHeld ?_
  ·(try dsimp only at hSw)
   unfold oU1
   go_simp
  try simp only[oU1,Act.put,zA,zB,zC]
  refine wpAnyH_ready (rs:=[2]) (by kernel_rfl) (by simp) ?_
  refine AllReadyH.cons (o:=oU2) rfl (fun K hK=>?_) AllReadyH.nil
  unfold oU2
  go_simp
  go_wp2_with fail
  refine((zu SM) _ (by simp[World.drew];omega) (by exact(zu AP).below ((one_more u2 (.cells #[.int .u8 v0,.int .u8 v1,.int .u8 v2,.int .u8 v3] 98)).drew.drew) gu)).mono ?_
  rintro e u3 ⟨rfl,b3⟩
  have B3:=zh (show Below (u2.heap.size+1) (u2.alloc (.cells #[.int .u8 v0,.int .u8 v1,.int .u8 v2,.int .u8 v3] 98)) u3 from by
   have h:=b3.mono (B':=u2.heap.size+1) (by simp[World.drew])
   exact⟨h.os,h.tape,h.output,h.size,h.block⟩)
  have s3:u2.heap.size+1≤u3.heap.size:=by have:=(zu B3).size;simpa using this
  have K3:u3.cell? ⟨u2.heap.size,0,none⟩=some (.int .u8 v0)∧u3.cell? ⟨u2.heap.size,0+1,none⟩=some (.int .u8 v1)∧u3.cell? ⟨u2.heap.size,0+2,none⟩=some (.int .u8 v2)∧u3.cell? ⟨u2.heap.size,0+3,none⟩=some (.int .u8 v3):=⟨((zu B3).cell (p:=⟨u2.heap.size,0,none⟩) (by simp)).trans (by simp),((zu B3).cell (p:=⟨u2.heap.size,0+1,none⟩) (by simp)).trans (by simp),((zu B3).cell (p:=⟨u2.heap.size,0+2,none⟩) (by simp)).trans (by simp),((zu B3).cell (p:=⟨u2.heap.size,0+3,none⟩) (by simp)).trans (by simp)⟩
  clear b3 SM
  go_wp2_with fail
  refine hK.out _ _ K3 (fun hHeld=>?_)
  clear hK K
  try simp only[oU2,Act.put,zA,zB,zC]
  refine tk 3 oU3 (.bool false) rfl (by kernel_rfl) (fun _ _ _ h=>h) (by rfl) (fun w hSw=>?_) hHeld ?_
  ·(try dsimp only at hSw)
   unfold oU3
   go_simp
  try simp only[oU3,Act.put,zA,zB,zC]
  refine wpAnyH_done (by kernel_rfl) ?_ _
  have B4:=zh (show Below w.heap.size w u3 from((zu B2).alloc (by omega) (.cells #[.int .u8 v0,.int .u8 v1,.int .u8 v2,.int .u8 v3] 98)).trans ((zu B3).mono (by omega)))
  have B3x:=zh (show Below u2.heap.size u2 (u3.drew.alloc (.cells #[] 5)) from(((one_more u2 (.cells #[.int .u8 v0,.int .u8 v1,.int .u8 v2,.int .u8 v3] 98))).trans ((zu B3).mono (by omega))).drew.alloc (show u2.heap.size≤u3.heap.size from by omega) _)
  have sd:w.heap.size≤u3.drew.heap.size:=(show w.heap.size≤u3.heap.size from by omega)
  have p4:u3.cell? ⟨w.heap.size,0,none⟩=some (.int .i64 ((f:Int)+((n:Int)+4))):=(((one_more u2 (.cells #[.int .u8 v0,.int .u8 v1,.int .u8 v2,.int .u8 v3] 98)).trans ((zu B3).mono (by omega))).cell (p:=⟨w.heap.size,0,none⟩) (show w.heap.size<u2.heap.size from by omega)).trans pc
  have p5:(u3.drew.alloc (.cells #[] 5)).cell? ⟨w.heap.size,0,none⟩=some (.int .i64 ((f:Int)+((n:Int)+4))):=((one_more u3.drew (.cells #[] 5)).cell (p:=⟨w.heap.size,0,none⟩) (show w.heap.size<u3.heap.size from by omega)).trans p4
  go_wp2_with fail
  refine wp_region_held_drew (S:=(fun w'=>w'.cell? ⟨w.heap.size,0,none⟩=some (.int .i64 ((f:Int)+((n:Int)+4))))) (by kernel_rfl) p4 (fun hHeld=>?_)
  refine tk 1 oV1 (.slice (some ⟨gl,f,none⟩) n c) rfl (by kernel_rfl) (fun _ _ _ h=>h) (by rfl) (fun w hSw=>?_) hHeld ?_
  ·(try dsimp only at hSw)
   unfold oV1
   go_simp
  try simp only[oV1,Act.put,zA,zB,zC]
  refine tk 3 oV3 (.int .i64 ((f:Int)+((n:Int)+4))) rfl (by kernel_rfl) (fun _ _ _ h=>h) (by rfl) (fun w hSw=>?_) hHeld ?_
  ·(try dsimp only at hSw)
   unfold oV3
   go_simp
  try simp only[oV3,Act.put,zA,zB,zC]
  refine wpAnyH_ready (rs:=[0]) (by kernel_rfl) (by simp) ?_
  refine AllReadyH.cons (o:=oV0) rfl (fun K hK=>?_) AllReadyH.nil
  unfold oV0
  go_simp
  refine hK.out _ _ p5 (fun hHeld=>?_)
  clear hK K
  try simp only[oV0,Act.put,zA,zB,zC]
  refine wpAnyH_ready (rs:=[2]) (by kernel_rfl) (by simp) ?_
  refine AllReadyH.cons (o:=oV2) rfl (fun K hK=>?_) AllReadyH.nil
  refine step_catB _ (by rfl) _ _ (by rfl) w.heap.size u3.heap.size 0 0 n [] (piece xs f n) gl f c (by rfl) (by rfl) (by exact lit0 u3.drew w.heap.size sd rfl) (by rw[zu PL]) (by exact fun i hi=>((zu AP).below (zu B3x) (by omega) i hi).1) (by omega) (Nat.le_trans sd (by simp)) ?_
  intro g9 c9 u9 o9 gr9 loc9
  have K9:u9.cell? ⟨w.heap.size,0,none⟩=some (.int .i64 ((f:Int)+((n:Int)+4))):=gr9.cell p5 (fun e=>by injection e with e;simp at e;omega)
  have O9:=zh o9
  have B9:=zh (((zu B4).drew.alloc sd (.cells #[] 5)).grown gr9 (Nat.le_trans sd (by simp)) (fun j hj=>by cases hj;exact sd))
  clear o9 gr9 loc9
  refine hK.out _ _ K9 (fun hHeld=>?_)
  clear hK K
  try simp only[oV2,Act.put,zA,zB,zC]
  refine tk 4 oV4 (.slice (some ⟨g9,0,none⟩) n c9) rfl (by kernel_rfl) (fun _ _ _ h=>h) (by rfl) (fun w hSw=>?_) hHeld ?_
  ·(try dsimp only at hSw)
   unfold oV4
   go_simp
  try simp only[oV4,Act.put,zA,zB,zC]
  refine tk 5 oV5 (.int .i64 ((f:Int)+((n:Int)+4))) rfl (by kernel_rfl) (fun _ _ _ h=>h) (by rfl) (fun w hSw=>?_) hHeld ?_
  ·(try dsimp only at hSw)
   unfold oV5
   go_simp
  try simp only[oV5,Act.put,zA,zB,zC]
  refine tk 6 oV6 (.int .i64 0) rfl (by kernel_rfl) (fun _ _ _ h=>h) (by rfl) (fun w hSw=>?_) hHeld ?_
  ·(try dsimp only at hSw)
   unfold oV6
   go_simp
  try simp only[oV6,Act.put,zA,zB,zC]
  refine wpAnyH_done (by kernel_rfl) ?_ _
  go_wp2
  go_ret3
  have e:=zu QQ
  subst e
  have e1:(f:Int)+((n:Int)+4)=(f:Int)+(n:Int)+4:=by omega
  refine⟨g9,c9,?_,?_,zu B9⟩
  ·simp only[zu PL]
   rw[←e1]
   rfl
  ·simp only[zu PL]
   exact(by have:=zu O9;simpa using this)
 ·rw[if_neg E] at HQ2
  subst HQ2
  have ne:¬(v0=z%256∧v1=z/256%256∧v2=z/65536%256∧v3=z/16777216%256):=by omega
  generalize z%256=y0 at *
  generalize z/256%256=y1 at *
  generalize z/65536%256=y2 at *
  generalize z/16777216%256=y3 at *
  have EQ:∀w:World,(Op.equalIn 10000 98 (.agg #[.int .u8 v0,.int .u8 v1,.int .u8 v2,.int .u8 v3]) (.agg #[.int .u8 y0,.int .u8 y1,.int .u8 y2,.int .u8 y3])).run Tryz.prog w= .ok false w:=fun w=>by
   rw[EqS11.eqSum,show(v0==y0&&v1==y1&&v2==y2&&v3==y3)=false from by simp;exact fun a b c d=>ne ⟨a,b,c,d⟩]
  clear E CI w0 w1 w2 w3 ne
  go_wp2_with fail
  refine wp_region_held_drew (S:=(fun w'=>w'.cell? ⟨u2.heap.size,0,none⟩=some (.int .u8 v0)∧w'.cell? ⟨u2.heap.size,0+1,none⟩=some (.int .u8 v1)∧w'.cell? ⟨u2.heap.size,0+2,none⟩=some (.int .u8 v2)∧w'.cell? ⟨u2.heap.size,0+3,none⟩=some (.int .u8 v3))) (by kernel_rfl) K0 (fun hHeld=>?_)
  refine tk 0 oU0 (.agg #[.int .u8 v0,.int .u8 v1,.int .u8 v2,.int .u8 v3]) rfl (by kernel_rfl) (fun _ _ _ h=>h) (by rfl) (fun w hSw=>?_) hHeld ?_
  ·(try dsimp only at hSw)
   unfold oU0
   go_simp
  try simp only[oU0,Act.put,zA,zB,zC]
  refine tk 1 oU1 (.slice (some ⟨gl,f,none⟩) n c) rfl (by kernel_rfl) (fun _ _ _ h=>h) (by rfl) (fun w hSw=>?_) hHeld ?_
  ·(try dsimp only at hSw)
   unfold oU1
   go_simp
  try simp only[oU1,Act.put,zA,zB,zC]
  refine wpAnyH_ready (rs:=[2]) (by kernel_rfl) (by simp) ?_
  refine AllReadyH.cons (o:=oU2) rfl (fun K hK=>?_) AllReadyH.nil
  unfold oU2
  go_simp
  go_wp2_with fail
  refine((zu SM) _ (by simp[World.drew];omega) (by exact(zu AP).below ((one_more u2 (.cells #[.int .u8 v0,.int .u8 v1,.int .u8 v2,.int .u8 v3] 98)).drew.drew) gu)).mono ?_
  rintro e u3 ⟨rfl,b3⟩
  have B3:=zh (show Below (u2.heap.size+1) (u2.alloc (.cells #[.int .u8 v0,.int .u8 v1,.int .u8 v2,.int .u8 v3] 98)) u3 from by
   have h:=b3.mono (B':=u2.heap.size+1) (by simp[World.drew])
   exact⟨h.os,h.tape,h.output,h.size,h.block⟩)
  have s3:u2.heap.size+1≤u3.heap.size:=by have:=(zu B3).size;simpa using this
  have K3:u3.cell? ⟨u2.heap.size,0,none⟩=some (.int .u8 v0)∧u3.cell? ⟨u2.heap.size,0+1,none⟩=some (.int .u8 v1)∧u3.cell? ⟨u2.heap.size,0+2,none⟩=some (.int .u8 v2)∧u3.cell? ⟨u2.heap.size,0+3,none⟩=some (.int .u8 v3):=⟨((zu B3).cell (p:=⟨u2.heap.size,0,none⟩) (by simp)).trans (by simp),((zu B3).cell (p:=⟨u2.heap.size,0+1,none⟩) (by simp)).trans (by simp),((zu B3).cell (p:=⟨u2.heap.size,0+2,none⟩) (by simp)).trans (by simp),((zu B3).cell (p:=⟨u2.heap.size,0+3,none⟩) (by simp)).trans (by simp)⟩
  clear b3 SM
  go_wp2_with fail
  refine hK.out _ _ K3 (fun hHeld=>?_)
  clear hK K
  try simp only[oU2,Act.put,zA,zB,zC]
  refine tk 3 oU3 (.bool true) rfl (by kernel_rfl) (fun _ _ _ h=>h) (by rfl) (fun w hSw=>?_) hHeld ?_
  ·(try dsimp only at hSw)
   unfold oU3
   go_simp
  try simp only[oU3,Act.put,zA,zB,zC]
  refine wpAnyH_done (by kernel_rfl) ?_ _
  have B4:=zh (show Below w.heap.size w u3 from((zu B2).alloc (by omega) (.cells #[.int .u8 v0,.int .u8 v1,.int .u8 v2,.int .u8 v3] 98)).trans ((zu B3).mono (by omega)))
  have O5:=zh (lit0 u3 w.heap.size (by omega) rfl)
  have B5:=zh ((zu B4).alloc (by omega) (.cells #[] 5))
  go_wp2
  go_ret3
  exact⟨_,0,rfl,zu O5,zu B5⟩
end IUnseal11
namespace IGet11
open SBytes SPut11 IRd11
theorem iGetNum(w:World)(gl cl:Nat)(xs:List Int)(x:Int)(h20:xs.length≤1048576)(hc:xs.length≤cl)(hx:x≤9223372036854775807)(hg:gl<w.heap.size)(hr:AtB w gl xs):
  Calls Tryz.prog 22 #[.slice (some ⟨gl,0,none⟩) xs.length cl,.int .i64 x] w fun e w'=>e= .returned (.tuple #[.int .i64 (getN xs x).1,.int .i64 (getN xs x).2.1,.bool (getN xs x).2.2])∧Below w.heap.size w w':=by
 have B0:=zh (one_more w (.cells #[.int .i64 x] 3))
 have IN:=zh (iNum (w.alloc (.cells #[.int .i64 x] 3)) gl cl w.heap.size w.heap.size xs x hx h20 hc hg (hr.below (zu B0) hg) (pl_box w w.heap.size x (Nat.le_refl _) rfl))
 have GN:=zh (getN_no xs x)
 clear hr
 generalize getN xs x=r at *
 obtain⟨r0,r1,r2⟩:=r
 go_enter Tryz.func22,Tryz.ntmps22
 go_wp2_with fail
 refine(zu IN).mono ?_
 rintro e u ⟨v,q,rfl,hv,p1,g1⟩
 have B1:=zh ((zu B0).grown g1 (by simp) (fun k hk=>by cases hk;exact Nat.le_refl _))
 have us:=g1.size
 have pc:=p1.cell
 clear p1 g1 IN B0
 cases r2 with
 |false=>
  have F:=(zu GN) rfl
  injection F with F0 F
  injection F with F1 F2
  subst F0 F1
  clear hv
  go_wp2
  go_ret3
  exact⟨rfl,zu B1⟩
 |true=>
  obtain⟨rfl,rfl⟩:=hv rfl
  go_wp2
  go_region
  go_wp2
  go_ret3
  exact⟨rfl,(zu B1).drew⟩
end IGet11
namespace VOI
open Ints (Own At)
def Ob(w:World)(base:Nat)(a:Option Addr)(n cap:Nat)(xs:List Int):Prop:=w.ownsRow base 3 1 (.slice a n cap) n (xs.map (Value.int .i64))
theorem Ob.of{w:World}{base g n cap:Nat}{xs:List Int}(h:Own w base g n cap xs):Ob w base (some ⟨g,0,none⟩) n cap xs:=h
theorem Ob.nil(w:World)(base:Nat):Ob w base none 0 0 []:=World.ownsRow_nil w base _ _
section
variable {w w':World} {base n cap:Nat} {a:Option Addr} {xs:List Int}
theorem Ob.len(h:Ob w base a n cap xs):xs.length=n:=by have:=h.1;simpa using this
theorem Ob.either(h:Ob w base a n cap xs):(a=none∧n=0∧xs=[])∨∃g,a=some ⟨g,0,none⟩∧Own w base g n cap xs:=by
 have hl:=h.len
 rcases h.2 with⟨h1,_⟩|⟨g,c,cur,h1,_⟩
 ·have:a=none∧n=0∧cap=0:=by simpa using h1
  obtain⟨rfl,rfl,rfl⟩:=this
  exact .inl ⟨rfl,rfl,List.eq_nil_of_length_eq_zero hl⟩
 ·have:a=some ⟨g,0,none⟩∧cap=c:=by simpa using h1
  obtain⟨rfl,rfl⟩:=this
  exact .inr ⟨g,rfl,h⟩
def Btw(lo hi:Nat)(a:Option Addr):Prop:=∀x,a=some x→lo≤x.block∧x.block<hi
theorem Ob.btw(h:Ob w base a n cap xs):Btw base w.heap.size a:=by
 intro x hx
 rcases h.either with⟨rfl,_⟩|⟨g,rfl,o⟩
 ·cases hx
 ·cases hx;exact o.lt
theorem Btw.mono{lo hi lo' hi':Nat}(h:Btw lo hi a)(h1:lo'≤lo)(h2:hi≤hi'):Btw lo' hi' a:=fun x hx=>⟨Nat.le_trans h1 (h x hx).1,Nat.lt_of_lt_of_le (h x hx).2 h2⟩
theorem Ob.mono{base':Nat}(h:Ob w base a n cap xs)(hb:base'≤base):Ob w base' a n cap xs:=by
 rcases h.either with⟨rfl,rfl,rfl⟩|⟨g,rfl,o⟩
 ·refine⟨h.1,?_⟩
  rcases h.2 with h|⟨g,c,cur,h1,_⟩
  ·exact .inl h
  ·simp at h1
 ·exact o.mono hb
theorem Ob.below{B:Nat}(h:Ob w base a n cap xs)(k:Below B w w')(hb:Btw 0 B a):Ob w' base a n cap xs:=by
 rcases h.either with⟨rfl,rfl,rfl⟩|⟨g,rfl,o⟩
 ·refine⟨h.1,?_⟩
  rcases h.2 with h|⟨g,c,cur,h1,_⟩
  ·exact .inl h
  ·simp at h1
 ·exact o.below k (hb _ rfl).2
theorem Ob.step(h:Ob w base a n cap xs)(k:Below w.heap.size w w'):Ob w' base a n cap xs:=h.below k (h.btw.mono (Nat.zero_le _) (Nat.le_refl _))
theorem Ob.kept{row:Option Nat}(h:Ob w base a n cap xs)(k:w.grownBy w' row)(hr:∀x,a=some x→some x.block≠row):Ob w' base a n cap xs:=by
 rcases h.either with⟨rfl,rfl,rfl⟩|⟨g,rfl,o⟩
 ·refine⟨h.1,?_⟩
  rcases h.2 with h|⟨g,c,cur,h1,_⟩
  ·exact .inl h
  ·simp at h1
 ·exact o.kept k (hr _ rfl)
end
def Rd(w:World)(a:Option Addr)(xs:List Int):Prop:=xs=[]∨∃g,a=some ⟨g,0,none⟩∧g<w.heap.size∧At w g xs
theorem Ob.rd{w:World}{base n cap:Nat}{a:Option Addr}{xs:List Int}(h:Ob w base a n cap xs):Rd w a xs:=by
 rcases h.either with⟨rfl,rfl,rfl⟩|⟨g,rfl,o⟩
 ·exact .inl rfl
 ·exact .inr ⟨g,rfl,o.lt.2,o.at⟩
theorem Rd.below{w w':World}{a:Option Addr}{xs:List Int}(h:Rd w a xs)(k:Below w.heap.size w w'):Rd w' a xs:=by
 rcases h with h|⟨g,e,hl,hc⟩
 ·exact .inl h
 ·exact .inr ⟨g,e,Nat.lt_of_lt_of_le hl k.size,hc.below k hl⟩
end VOI
namespace IGets11
open SBytes SPut11 SPuts11 IRd11
theorem getN_next(xs:List Int)(x:Int)(h20:xs.length≤1048576)(h:(getN xs x).2.2=true):(getN xs x).2.1≤9223372036854775807:=by
 have:∀f k,(getF xs x.toNat f k).2.2=true→(getF xs x.toNat f k).2.1≤xs.length:=by
  intro f
  induction f with
  |zero=>intro k;simp[getF]
  |succ f ih=>
   intro k h
   simp only[getF] at h⊢
   by_cases a:x.toNat+k<xs.length
   ·rw[if_pos a] at h⊢
    by_cases b:xs.getD (x.toNat+k) 0<128
    ·rw[if_pos b] at h⊢
     by_cases c:xs.getD (x.toNat+k) 0=0∧0<k
     ·rw[if_pos c] at h;simp at h
     ·rw[if_neg c];simp only;omega
    ·rw[if_neg b] at h⊢
     exact ih (k+1) h
   ·rw[if_neg a] at h;simp at h
 unfold getN at h⊢
 by_cases a:x<0∨(xs.length:Int)≤x
 ·rw[if_pos a];simp
 ·rw[if_neg a] at h⊢
  have:=this 9 0 h
  omega
end IGets11
namespace Errs
open Go.Extern.Stop Go.Stop Go.Extern
open Triples (zh zu)
structure Errs(w:World)(n N:Nat)(a:Nat→Addr):Prop where
 v:∀k,k<n→w.cell? ⟨k,0,none⟩=some (.iface 201 (.pointer (some (a k))))
 lt:∀k,k<n→k<N∧(a k).block<N
 ne:∀j k,j<n→k<n→j≠k→a j≠a k
 row:∀k,k<n→∃c t,w.heap[(a k).block]?=some (.cells c t (0,0))
theorem Errs.below{w w':World}{n N M:Nat}{a:Nat→Addr}(h:Errs w n N a)(b:Below M w w')(hM:N≤M):Errs w' n N a:=
 ⟨fun k hk=>(b.cell (p:=⟨k,0,none⟩) (Nat.lt_of_lt_of_le (h.lt k hk).1 hM)).trans (h.v k hk),h.lt,h.ne,fun k hk=>by
  obtain⟨c,t,e⟩:=h.row k hk
  exact⟨c,t,(b.block _ (Nat.lt_of_lt_of_le (h.lt k hk).2 hM)).trans e⟩⟩
theorem Errs.drew{w:World}{n N:Nat}{a:Nat→Addr}(h:Errs w n N a):Errs w.drew n N a:=⟨h.v,h.lt,h.ne,h.row⟩
theorem Errs.grown{w w':World}{n N g:Nat}{a:Nat→Addr}(h:Errs w n N a)(b:w.grownBy w' (some g))(hg:N≤g):Errs w' n N a:=
 ⟨fun k hk=>b.cell (h.v k hk) (fun e=>by injection e with e;have:=(h.lt k hk).1;simp at e;omega),h.lt,h.ne,fun k hk=>by
  obtain⟨c,t,e⟩:=h.row k hk
  exact⟨c,t,(b.block _ (by have:=Array.getElem?_eq_some_iff.1 e;obtain⟨q,_⟩:=this;exact q) (fun e=>by injection e with e;have:=(h.lt k hk).2;omega)).trans e⟩⟩
def IsRef(a:Nat→Addr)(c:Int)(v:Value):Prop:=
 (c=0∧v= .nilIface)∨(c=3∧v= .iface 201 (.pointer (some (a 1))))∨(c=6∧v= .iface 201 (.pointer (some (a 2))))∨(c=5∧v= .iface 201 (.pointer (some (a 4))))∨(c=7∧v= .iface 201 (.pointer (some (a 0))))∨(c=8∧v= .iface 201 (.pointer (some (a 3))))
def plc(c:Int):Nat:=if c=3 then 1 else if c=6 then 2 else if c=5 then 4 else if c=7 then 0 else 3
theorem IsRef.at{a:Nat→Addr}{c:Int}{v:Value}(h:IsRef a c v):(v= .nilIface∧c=0)∨(plc c<5∧v= .iface 201 (.pointer (some (a (plc c))))∧(c=3∨c=6∨c=5∨c=7∨c=8)):=by
 rcases h with⟨rfl,rfl⟩|⟨rfl,rfl⟩|⟨rfl,rfl⟩|⟨rfl,rfl⟩|⟨rfl,rfl⟩|⟨rfl,rfl⟩
 ·exact .inl ⟨rfl,rfl⟩
 ·exact .inr ⟨by decide,rfl,by omega⟩
 ·exact .inr ⟨by decide,rfl,by omega⟩
 ·exact .inr ⟨by decide,rfl,by omega⟩
 ·exact .inr ⟨by decide,rfl,by omega⟩
 ·exact .inr ⟨by decide,rfl,by omega⟩
end Errs
namespace IInto13
open SBytes SPut11 SPuts11 IRd11
open IGets11 (getN_next)
variable {oz:Nat}
def Ptr(w:World)(g p n:Nat):Prop:=∀i,i<n→w.cell? ⟨g,i,none⟩=some (.pointer (some ⟨p,i,none⟩))
structure Gr2(w w':World)(a b:Nat):Prop where
 os:w'.os=w.os
 tape:w'.tape=w.tape
 output:w'.output=w.output
 size:w.heap.size≤w'.heap.size
 block:∀i,i<w.heap.size→i≠a→i≠b→w'.heap[i]?=w.heap[i]?
section
variable {w w1 w2:World} {a b:Nat}
theorem Gr2.refl(w:World)(a b:Nat):Gr2 w w a b:=⟨rfl,rfl,rfl,Nat.le_refl _,fun _ _ _ _=>rfl⟩
theorem Gr2.first(h:Gr2 w w1 a b)(k:w1.grownBy w2 (some a)):Gr2 w w2 a b:=
 ⟨k.os.trans h.os,k.tape.trans h.tape,k.output.trans h.output,Nat.le_trans h.size k.size,fun i hi h1 h2=>(k.block i (Nat.lt_of_lt_of_le hi h.size) (by simpa using h1)).trans (h.block i hi h1 h2)⟩
theorem Gr2.second(h:Gr2 w w1 a b)(k:w1.grownBy w2 (some b)):Gr2 w w2 a b:=
 ⟨k.os.trans h.os,k.tape.trans h.tape,k.output.trans h.output,Nat.le_trans h.size k.size,fun i hi h1 h2=>(k.block i (Nat.lt_of_lt_of_le hi h.size) (by simpa using h2)).trans (h.block i hi h1 h2)⟩
theorem Gr2.step(h:Gr2 w w1 a b)(k:Below w1.heap.size w1 w2):Gr2 w w2 a b:=
 ⟨k.os.trans h.os,k.tape.trans h.tape,k.output.trans h.output,Nat.le_trans h.size k.size,fun i hi h1 h2=>(k.block i (Nat.lt_of_lt_of_le hi h.size)).trans (h.block i hi h1 h2)⟩
theorem Gr2.to{B:Nat}(h:Gr2 w w1 a b)(hB:B≤w.heap.size)(ha:B≤a)(hb:B≤b):Below B w w1:=
 ⟨h.os,h.tape,h.output,h.size,fun i hi=>h.block i (by omega) (by omega) (by omega)⟩
theorem Gr2.cell(h:Gr2 w w1 a b){g:Nat}(o:Nat)(hg:g<w.heap.size)(h1:g≠a)(h2:g≠b):w1.cell? ⟨g,o,none⟩=w.cell? ⟨g,o,none⟩:=
 World.cell?_of_block (w:=w) (h.block g hg h1 h2)
end
def Tg(w:World)(base t m d:Nat)(vs:List Value):Prop:=w.ownsRow base t m (.slice (some ⟨d,0,none⟩) 1 1) 1 vs
section
variable {w w':World} {base t m d:Nat} {vs:List Value}
theorem Tg.lt(h:Tg w base t m d vs):base≤d∧d<w.heap.size:=World.ownsRow.lt h d rfl
theorem Tg.free(h:Tg w base t m d vs)(i:Nat):w.frozen? ⟨d,i,none⟩=false:=World.ownsRow.frozenAt h i
theorem Tg.len(h:Tg w base t m d vs):vs.length=m:=by have:=h.1;simpa using this
theorem Tg.at(h:Tg w base t m d vs){i:Nat}{v:Value}(hi:vs[i]?=some v):w.cell? ⟨d,i,none⟩=some v:=by
 have hl:=h.len
 have hk:=(List.getElem?_eq_some_iff.1 hi).1
 have:=World.ownsRow.cellAt h i (by omega)
 rw[this]
 exact hi
theorem Tg.mono{base':Nat}(h:Tg w base t m d vs)(hb:base'≤base):Tg w base' t m d vs:=by
 refine⟨h.1,?_⟩
 rcases h.2 with⟨h1,_⟩|⟨g',c,cur,h1,h2,h3⟩
 ·simp at h1
 ·exact .inr ⟨g',c,cur,h1,Nat.le_trans hb h2,h3⟩
theorem Tg.blk(h:Tg w base t m d vs)(e:w'.heap[d]?=w.heap[d]?):Tg w' base t m d vs:=by
 refine⟨h.1,?_⟩
 rcases h.2 with⟨h1,_⟩|⟨g',c,cur,h1,h2,h3,h4⟩
 ·simp at h1
 ·have e1:d=g':=by simp at h1;exact h1.1
  subst e1
  exact .inr ⟨d,c,cur,h1,h2,e.trans h3,h4⟩
theorem Tg.step(h:Tg w base t m d vs)(k:Below w.heap.size w w'):Tg w' base t m d vs:=h.blk (k.block d h.lt.2)
theorem Tg.kept{row:Nat}(h:Tg w base t m d vs)(k:w.grownBy w' (some row))(hr:d≠row):Tg w' base t m d vs:=h.blk (k.block d h.lt.2 (by simpa using hr))
theorem Tg.set(h:Tg w base t m d vs)(i:Nat)(v:Value):Tg (w.setCell ⟨d,i,none⟩ v) base t m d (vs.set i v)∧w.grownBy (w.setCell ⟨d,i,none⟩ v) (some d):=World.ownsRow.stored h i v
end
def fill(vs:List Value)(q:List Int):List Value:=q.map (Value.int .i64)++vs.drop q.length
theorem fill_nil(vs:List Value):fill vs []=vs:=by simp[fill]
theorem fill_at{vs:List Value}{q:List Int}{i:Nat}(h:q.length≤i):(fill vs q)[i]?=vs[i]?:=by
 unfold fill
 rw[List.getElem?_append_right (by simpa using h)]
 simp
 congr 1
 omega
theorem fill_next{vs:List Value}{q:List Int}(v:Int)(h:q.length<vs.length):(fill vs q).set q.length (.int .i64 v)=fill vs (q++[v]):=by
 unfold fill
 rw[List.set_append_right _ _ (by simp)]
 simp
 rw[List.drop_eq_getElem_cons h]
 rfl
theorem iInto(w:World)(gl cl p base t m d g n cap:Nat)(xs:List Int)(x:Int)(vs:List Value)(hx:x≤9223372036854775807)(h20:xs.length≤1048576)(hc:xs.length≤cl)(hg:gl<base)(hr:AtBO w gl oz xs)(hp:Pl w base p x)(ht:Tg w base t m d vs)
  (hv:∀i,i<n→∃y,vs[i]?=some (.int .i64 y))(hP:Ptr w g d n)(lg:g<w.heap.size)(n1:g≠p)(n2:g≠d)(n3:p≠d)(hn:n≤1048576):
  Calls Tryz.prog 102 #[.agg #[.slice (some ⟨gl,oz,none⟩) xs.length cl,.pointer (some ⟨p,0,none⟩)],.slice (some ⟨g,0,none⟩) n cap] w fun e w'=>e= .returned (.bool (gets xs n x []).2.2)∧Gr2 w w' p d∧((gets xs n x []).2.2=true→Pl w' base p (gets xs n x []).2.1∧Tg w' base t m d (fill vs (gets xs n x []).1)):=by
 obtain⟨r,E0⟩:∃r,Hid (r=gets xs n x []):=⟨_,rfl⟩
 rw[←zu E0]
 obtain⟨r0,r1,r2⟩:=r
 have G0:=zh ((Gr2.refl w p d).step (one_more w (.cells #[.slice (some ⟨gl,oz,none⟩) xs.length cl,.pointer (some ⟨p,0,none⟩)] 92)))
 have C0:=zh (rd_box w (.slice (some ⟨gl,oz,none⟩) xs.length cl) (.pointer (some ⟨p,0,none⟩)))
 have P0:=zh (show Pl (w.alloc (.cells #[.slice (some ⟨gl,oz,none⟩) xs.length cl,.pointer (some ⟨p,0,none⟩)] 92)) base p x from pl_alloc hp _)
 have T0:=zh (show Tg (w.alloc (.cells #[.slice (some ⟨gl,oz,none⟩) xs.length cl,.pointer (some ⟨p,0,none⟩)] 92)) base t m d (fill vs []) from by rw[fill_nil];exact ht.step (one_more _ _))
 have S0:=zh (show w.heap.size+1≤(w.alloc (.cells #[.slice (some ⟨gl,oz,none⟩) xs.length cl,.pointer (some ⟨p,0,none⟩)] 92)).heap.size from by simp)
 have R:=zh hr
 have HP:=zh hP
 have HV:=zh hv
 have LP:=hp.lt
 have LT:=ht.lt
 clear hr hp ht hP hv
 go_enter Tryz.func102,Tryz.ntmps102
 go_wp2
 go_loopw [11] (fun i wr=>∃(s:Int) (q:List Int) (k:Nat),i= .int .i64 k∧k≤n∧q.length=k∧s≤9223372036854775807∧Hid ((r0,r1,r2)=gets xs (n-k) s q)∧Hid (Pl wr base p s)∧Hid (Tg wr base t m d (fill vs q))∧Hid (Gr2 w wr p d)∧Hid (wr.cell? ⟨w.heap.size,0,none⟩=some (.slice (some ⟨gl,oz,none⟩) xs.length cl)∧wr.cell? ⟨w.heap.size,1,none⟩=some (.pointer (some ⟨p,0,none⟩)))∧w.heap.size+1≤wr.heap.size) (fun i _=>n-(intOf i).toNat)
 case atStart=>exact⟨x,[],0,rfl,by omega,rfl,hx,E0,P0,T0,G0,C0,zu S0⟩
 case round=>
  clear E0 P0 T0 G0 C0 S0
  obtain⟨s,q,k,rfl,hk,ql,sm,HE,HQ,HT,HG,HC,HS⟩:=hrel
  obtain⟨c0,c1⟩:=zu HC
  by_cases h:k<n
  case neg=>
   have e:k=n:=by omega
   subst e
   have F:=zu HE
   rw[Nat.sub_self] at F
   simp only[gets] at F
   injection F with F0 F
   injection F with F1 F2
   subst F0 F1 F2
   clear HE
   have QL:=zh ql
   clear ql
   go_wp2
   go_ret
   exact⟨rfl,zu HG,zu HQ,zu HT⟩
  have kn:(k:Int)<n:=by omega
  have NX:=zh (show(r0,r1,r2)=if(getN xs s).2.2=true then gets xs (n-(k+1)) (getN xs s).2.1 (q++[(getN xs s).1]) else([],0,false) from by
   rw[zu HE,show n-k=(n-(k+1))+1 by omega]
   rfl)
  have IN:=zh (iNumO wr gl cl p base xs s sm h20 hc hg (AtBO.below (zu R) ((zu HG).to (B:=base) (by omega) LP.1 LT.1) hg) (zu HQ))
  have GX:=zh (getN_next xs s h20)
  have pk:wr.cell? ⟨g,k,none⟩=some (.pointer (some ⟨d,k,none⟩)):=((zu HG).cell k lg n1 n2).trans ((zu HP) k h)
  have QL:=zh ql
  clear HE ql
  generalize getN xs s=y at *
  obtain⟨y0,y1,y2⟩:=y
  go_wp2_with fail
  refine(zu IN).mono ?_
  rintro e u ⟨v,s',rfl,hv,p1,g1⟩
  have us:=g1.size
  have G1:=zh ((zu HG).first g1)
  have P1:=zh p1
  have T1:=zh ((zu HT).kept g1 (fun e=>n3 e.symm))
  have d0:=(cell_grown g1 0 (g:=w.heap.size) (by omega) (by omega)).trans c0
  have d1:=(cell_grown g1 1 (g:=w.heap.size) (by omega) (by omega)).trans c1
  clear p1 g1 IN HQ HT HG HC c0 c1 pk
  cases y2 with
  |false=>
   have F:=zu NX
   rw[if_neg (by simp)] at F
   injection F with F0 F
   injection F with F1 F2
   subst F0 F1 F2
   clear NX hv GX
   go_wp2
   go_ret
   exact⟨rfl,zu G1,fun e=>by simp at e⟩
  |true=>
   obtain⟨rfl,rfl⟩:=hv rfl
   have gx:=(zu GX) rfl
   have N1:=zh (show(r0,r1,r2)=gets xs (n-(k+1)) s' (q++[v]) from by rw[zu NX,if_pos rfl])
   obtain⟨y,hy⟩:=(zu HV) k h
   have o1:u.cell? ⟨d,k,none⟩=some (.int .i64 y):=(zu T1).at (by rw[fill_at (by rw[zu QL];exact Nat.le_refl _)];exact hy)
   have f1:=(zu T1).free k
   obtain⟨t2,g2⟩:=(zu T1).set k (.int .i64 v)
   have T2:=zh (show Tg (u.setCell ⟨d,k,none⟩ (.int .i64 v)) base t m d (fill vs (q++[v])) from by
    have e:=fill_next (vs:=vs) (q:=q) v (by rw[zu QL];exact(List.getElem?_eq_some_iff.1 hy).1)
    rw[zu QL] at e
    rw[←e]
    exact t2)
   have G2:=zh ((zu G1).second g2)
   have P2:=zh (Ints.Own.kept (zu P1) g2 (by simpa using n3))
   have D2:=zh (And.intro ((cell_grown g2 0 (g:=w.heap.size) (by omega) (by omega)).trans d0) ((cell_grown g2 1 (g:=w.heap.size) (by omega) (by omega)).trans d1))
   have z2:=g2.size
   clear NX GX hv d0 d1 hy t2 g2
   go_wp2
   go_roundw
   case rel=>exact⟨s',q++[v],k+1,by go_num,by omega,by simp[zu QL],gx,N1,P2,T2,G2,D2,by omega⟩
   case measure=>simp[intOf];omega
theorem Gr2.trans{w w1 w2:World}{a b:Nat}(h:Gr2 w w1 a b)(k:Gr2 w1 w2 a b):Gr2 w w2 a b:=
 ⟨k.os.trans h.os,k.tape.trans h.tape,k.output.trans h.output,Nat.le_trans h.size k.size,fun i hi h1 h2=>(k.block i (Nat.lt_of_lt_of_le hi h.size) h1 h2).trans (h.block i hi h1 h2)⟩
def Pan(e:Ending):Prop:=∃u v,e= .panicked [{v:= .iface u v,recovered:=false}]
def One1(r:Int×Int×Bool)(w:World)(base p:Nat)(q:Addr)(e:Ending)(w':World):Prop:=e= .returned (.bool r.2.2)∧(r.2.2=false→w.grownBy w' (some p))∧(r.2.2=true→∃u,w.grownBy u (some p)∧Pl u base p r.2.1∧w'=u.setCell q (.int .i64 r.1))
def Must1(r:Int×Int×Bool)(w:World)(base p:Nat)(q:Addr)(e:Ending)(w':World):Prop:=(r.2.2=false∧Pan e∧w.grownBy w' (some p))∨(r.2.2=true∧e= .returned (.tuple #[])∧∃u,w.grownBy u (some p)∧Pl u base p r.2.1∧w'=u.setCell q (.int .i64 r.1))
def MustN(r:List Int×Int×Bool)(w:World)(base p t m d:Nat)(vs:List Value)(e:Ending)(w':World):Prop:=(r.2.2=false∧Pan e∧Gr2 w w' p d)∨(r.2.2=true∧e= .returned (.tuple #[])∧Gr2 w w' p d∧Pl w' base p r.2.1∧Tg w' base t m d (fill vs r.1))
theorem iInto1(w:World)(gl cl p base d o g cap:Nat)(xs:List Int)(x y:Int)(hx:x≤9223372036854775807)(h20:xs.length≤1048576)(hc:xs.length≤cl)(hg:gl<base)(hr:AtBO w gl oz xs)(hp:Pl w base p x)(ld:d<w.heap.size)
  (hy:w.cell? ⟨d,o,none⟩=some (.int .i64 y))(hf:w.frozen? ⟨d,o,none⟩=false)(hP:w.cell? ⟨g,0,none⟩=some (.pointer (some ⟨d,o,none⟩)))(lg:g<w.heap.size)(n1:g≠p)(n3:d≠p):
  Calls Tryz.prog 102 #[.agg #[.slice (some ⟨gl,oz,none⟩) xs.length cl,.pointer (some ⟨p,0,none⟩)],.slice (some ⟨g,0,none⟩) 1 cap] w (One1 (getN xs x) w base p ⟨d,o,none⟩):=by
 obtain⟨r,E0⟩:∃r,Hid (getN xs x=r):=⟨_,rfl⟩
 have G0:=zh (show w.grownBy (w.alloc (.cells #[.slice (some ⟨gl,oz,none⟩) xs.length cl,.pointer (some ⟨p,0,none⟩)] 92)) (some p) from grow_below (World.grownBy.refl _ _) (one_more _ _))
 have IN:=zh (iNumO (w.alloc (.cells #[.slice (some ⟨gl,oz,none⟩) xs.length cl,.pointer (some ⟨p,0,none⟩)] 92)) gl cl p base xs x hx h20 hc hg (AtBO.below hr (one_more _ _) (by have:=hp.lt;omega)) (pl_alloc hp _))
 rw[zu E0] at IN⊢
 obtain⟨r0,r1,r2⟩:=r
 have pc:(w.alloc (.cells #[.slice (some ⟨gl,oz,none⟩) xs.length cl,.pointer (some ⟨p,0,none⟩)] 92)).cell? ⟨g,0,none⟩=some (.pointer (some ⟨d,o,none⟩)):=((one_more w _).cell (p:=⟨g,0,none⟩) lg).trans hP
 have HY:=zh (((one_more w (.cells #[.slice (some ⟨gl,oz,none⟩) xs.length cl,.pointer (some ⟨p,0,none⟩)] 92)).cell (p:=⟨d,o,none⟩) ld).trans hy)
 have HF:=zh hf
 have LD:=ld
 clear hr hp hy hf hP
 go_enter Tryz.func102,Tryz.ntmps102
 go_wp2
 go_loopw [11] (fun i wr=>(i= .int .i64 0∧wr=w.alloc (.cells #[.slice (some ⟨gl,oz,none⟩) xs.length cl,.pointer (some ⟨p,0,none⟩)] 92))∨(i= .int .i64 1∧Hid (r2=true∧∃u,w.grownBy u (some p)∧Pl u base p r1∧wr=u.setCell ⟨d,o,none⟩ (.int .i64 r0)))) (fun i _=>1-(intOf i).toNat)
 case atStart=>exact .inl ⟨rfl,rfl⟩
 case round=>
  rcases hrel with⟨rfl,rfl⟩|⟨rfl,HE⟩
  ·go_wp2_with fail
   refine(zu IN).mono ?_
   rintro e u ⟨v,s',rfl,hv,p1,g1⟩
   have G1:=zh (grow_grow (zu G0) g1)
   have P1:=zh p1
   have d1:u.cell? ⟨d,o,none⟩=some (.int .i64 y):=(cell_grown g1 o (g:=d) (by simp;omega) n3).trans (zu HY)
   have f1:u.frozen? ⟨d,o,none⟩=false:=by
    have e:u.heap[d]?=w.heap[d]?:=(zu G1).block d LD (by simpa using n3)
    have:=zu HF
    simpa[World.frozen?,e] using this
   clear p1 g1 IN pc
   cases r2 with
   |false=>
    clear hv
    go_wp2
    go_ret
    exact⟨rfl,fun _=>zu G1,fun e=>by simp at e⟩
   |true=>
    obtain⟨rfl,rfl⟩:=hv rfl
    clear hv
    go_wp2
    go_roundw
    case rel=>exact .inr ⟨by go_num,zh ⟨by first|rfl|trivial,u,zu G1,zu P1,rfl⟩⟩
    case measure=>simp[intOf]
  ·clear pc IN
   obtain⟨e2,HU⟩:=zu HE
   subst e2
   have HU:=zh HU
   go_wp2
   go_ret
   exact⟨rfl,fun e=>by simp at e,fun _=>zu HU⟩
theorem iMust1(w:World)(gl cl p base d o g cap:Nat)(xs:List Int)(x y:Int)(ev:Value)(et:TypeId)(hx:x≤9223372036854775807)(h20:xs.length≤1048576)(hc:xs.length≤cl)(hg:gl<base)(hr:AtBO w gl oz xs)(hp:Pl w base p x)(ld:d<w.heap.size)
  (hy:w.cell? ⟨d,o,none⟩=some (.int .i64 y))(hf:w.frozen? ⟨d,o,none⟩=false)(hP:w.cell? ⟨g,0,none⟩=some (.pointer (some ⟨d,o,none⟩)))(lg:g<w.heap.size)(n1:g≠p)(n3:d≠p)(he:w.cell? ⟨0,0,none⟩=some (.iface et ev))(h0:0<base):
  Calls Tryz.prog 80 #[.agg #[.slice (some ⟨gl,oz,none⟩) xs.length cl,.pointer (some ⟨p,0,none⟩)],.slice (some ⟨g,0,none⟩) 1 cap] w (Must1 (getN xs x) w base p ⟨d,o,none⟩):=by
 have lp:=hp.lt
 have G0:=zh (show w.grownBy (w.alloc (.cells #[.slice (some ⟨gl,oz,none⟩) xs.length cl,.pointer (some ⟨p,0,none⟩)] 92)) (some p) from grow_below (World.grownBy.refl _ _) (one_more _ _))
 have IN:=zh (iInto1 (w.alloc (.cells #[.slice (some ⟨gl,oz,none⟩) xs.length cl,.pointer (some ⟨p,0,none⟩)] 92)) gl cl p base d o g cap xs x y hx h20 hc hg (AtBO.below hr (one_more _ _) (by omega)) (pl_alloc hp _) (by simp;omega) (((one_more w _).cell (p:=⟨d,o,none⟩) ld).trans hy) (by
  have e:(w.alloc (.cells #[.slice (some ⟨gl,oz,none⟩) xs.length cl,.pointer (some ⟨p,0,none⟩)] 92)).heap[d]?=w.heap[d]?:=(one_more w _).block d ld
  simpa[World.frozen?,e] using hf) (((one_more w _).cell (p:=⟨g,0,none⟩) lg).trans hP) (by simp;omega) n1 n3)
 have HE:=zh he
 generalize getN xs x=r at *
 obtain⟨r0,r1,r2⟩:=r
 clear hr hp hy hf hP he
 go_enter Tryz.func80,Tryz.ntmps80
 go_wp2_with fail
 refine(zu IN).mono ?_
 rintro e w1 ⟨rfl,hn,hs⟩
 have HS:=zh hs
 have HN:=zh hn
 clear hs hn IN
 cases r2 with
 |false=>
  have G1:=zh (grow_grow (zu G0) ((zu HN) rfl))
  have e0:w1.cell? ⟨0,0,none⟩=some (.iface et ev):=(cell_grown (zu G1) 0 (g:=0) (by omega) (by omega)).trans (zu HE)
  clear HN HS
  go_wp2
  exact⟨rfl,.inl ⟨rfl,⟨_,_,rfl⟩,zu G1⟩⟩
 |true=>
  have HU:=zh ((zu HS) rfl)
  clear HN HS
  go_wp2
  go_end0
  obtain⟨u,g1,p1,e1⟩:=zu HU
  exact .inr ⟨rfl,rfl,u,grow_grow (zu G0) g1,p1,e1⟩
theorem iMust(w:World)(gl cl p base t m d g n cap:Nat)(xs:List Int)(x:Int)(vs:List Value)(ev:Value)(et:TypeId)(hx:x≤9223372036854775807)(h20:xs.length≤1048576)(hc:xs.length≤cl)(hg:gl<base)(hr:AtBO w gl oz xs)(hp:Pl w base p x)(ht:Tg w base t m d vs)
  (hv:∀i,i<n→∃y,vs[i]?=some (.int .i64 y))(hP:Ptr w g d n)(lg:g<w.heap.size)(n1:g≠p)(n2:g≠d)(n3:p≠d)(hn:n≤1048576)(he:w.cell? ⟨0,0,none⟩=some (.iface et ev))(h0:0<base):
  Calls Tryz.prog 80 #[.agg #[.slice (some ⟨gl,oz,none⟩) xs.length cl,.pointer (some ⟨p,0,none⟩)],.slice (some ⟨g,0,none⟩) n cap] w (MustN (gets xs n x []) w base p t m d vs):=by
 have lp:=hp.lt
 have lt:=ht.lt
 have G0:=zh ((Gr2.refl w p d).step (one_more w (.cells #[.slice (some ⟨gl,oz,none⟩) xs.length cl,.pointer (some ⟨p,0,none⟩)] 92)))
 have IN:=zh (iInto (w.alloc (.cells #[.slice (some ⟨gl,oz,none⟩) xs.length cl,.pointer (some ⟨p,0,none⟩)] 92)) gl cl p base t m d g n cap xs x vs hx h20 hc hg (AtBO.below hr (one_more _ _) (by omega)) (pl_alloc hp _) (ht.step (one_more _ _)) hv (fun i hi=>((one_more w _).cell (p:=⟨g,i,none⟩) lg).trans (hP i hi)) (by simp;omega) n1 n2 n3 hn)
 have HE:=zh he
 generalize gets xs n x []=r at *
 obtain⟨r0,r1,r2⟩:=r
 clear hr hp hv hP he ht
 go_enter Tryz.func80,Tryz.ntmps80
 go_wp2_with fail
 refine(zu IN).mono ?_
 rintro e w1 ⟨rfl,hn,hs⟩
 have HS:=zh hs
 have G1:=zh ((zu G0).trans hn)
 clear hs hn IN
 cases r2 with
 |false=>
  have e0:w1.cell? ⟨0,0,none⟩=some (.iface et ev):=((zu G1).cell 0 (g:=0) (by omega) (by omega) (by omega)).trans (zu HE)
  clear HS
  go_wp2
  exact⟨rfl,.inl ⟨rfl,⟨_,_,rfl⟩,zu G1⟩⟩
 |true=>
  have HU:=zh ((zu HS) rfl)
  clear HS
  go_wp2
  go_end0
  exact .inr ⟨rfl,rfl,zu G1,(zu HU).1,(zu HU).2⟩
end IInto13
namespace ICl13
open BMem Bks BHelp SRead13 VB13
open SBytes (AtB getN AtBO)
open SPuts11 (gets)
open IRd11 (Pl cell_grown grow_below)
open IInto13
open IBalsFit (one_more)
open SRead13 (row_kept)
open Bals (T3 el3)
open Tup5 (T5 el5)
open Tup8 (T8 el8)
variable {oz:Nat}
def addRow(k:Nat)(r:List Int)(b:Bk):Bk:=
 match k with
 |0=>⟨b.ac++[r2 r],b.ic,b.bs,b.ls,b.ts,b.lot⟩
 |1=>⟨b.ac,b.ic++[r2 r],b.bs,b.ls,b.ts,b.lot⟩
 |2=>⟨b.ac,b.ic,b.bs++[r3 r],b.ls,b.ts,b.lot⟩
 |3=>⟨b.ac,b.ic,b.bs,b.ls++[r5 r],b.ts,b.lot⟩
 |_=>⟨b.ac,b.ic,b.bs,b.ls,b.ts++[r8 r],b.lot⟩
theorem add_put(k:Nat)(rs:List (List Int))(r:List Int)(b:Bk):addRow k r (putRows k rs b)=putRows k (rs++[r]) b:=by
 unfold addRow putRows
 split<;>simp
def keptT:Obj→Bool
 | .cells _ t _=>t==92||t==127||t==124
 |_=>false
def Kp(W W':World):Prop:=∀(i:Nat) (o:Obj),W.heap[i]?=some o→keptT o=true→W'.heap[i]?=some o
theorem Kp.refl(W:World):Kp W W:=fun _ _ h _=>h
theorem Kp.trans{a b c:World}(h:Kp a b)(k:Kp b c):Kp a c:=fun i o h1 h2=>k i o (h i o h1 h2) h2
theorem Kp.below{W W':World}(k:Below W.heap.size W W'):Kp W W':=fun i o h _=>(k.block i (Array.getElem?_eq_some_iff.1 h).1).trans h
theorem Kp.drew{W W':World}(k:Kp W.drew W'):Kp W W':=k
theorem Kp.grown{W W':World}{row:Option Nat}(k:W.grownBy W' row)(h:∀j,row=some j→∃o,W.heap[j]?=some o∧keptT o=false):Kp W W':=fun i o h1 h2=>by
 refine(k.block i (Array.getElem?_eq_some_iff.1 h1).1 (fun e=>?_)).trans h1
 obtain⟨o',e1,e2⟩:=h i e.symm
 rw[h1] at e1
 injection e1 with e1
 rw[e1,e2] at h2
 cases h2
theorem row_typ{W:World}{base:Nat}{e:TypeId}{m:Nat}{v:Value}{n:Nat}{vs:List Value}(h:W.ownsRow base e m v n vs):∀j,v.ownBlock=some j→∃c,W.heap[j]?=some (.cells c e (0,0)):=by
 intro j hj
 rcases h.2 with⟨h1,_⟩|⟨g,c,cur,h1,h2,h3,_⟩
 ·rw[h1] at hj;cases hj
 ·rw[h1] at hj
  have:g=j:=by simpa[Value.ownBlock] using hj
  subst this
  exact⟨cur,h3⟩
theorem row_ne{W:World}{b1 b2:Nat}{e1 e2:TypeId}{m1 m2:Nat}{v1 v2:Value}{n1 n2:Nat}{x1 x2:List Value}(h1:W.ownsRow b1 e1 m1 v1 n1 x1)(h2:W.ownsRow b2 e2 m2 v2 n2 x2)(he:e1≠e2):v1.ownBlock=none∨v1.ownBlock≠v2.ownBlock:=by
 cases h:v1.ownBlock with
 |none=>exact .inl rfl
 |some j=>
  refine .inr fun e=>?_
  obtain⟨c,hc⟩:=row_typ h1 j h
  obtain⟨c',hc'⟩:=row_typ h2 j e.symm
  rw[hc] at hc'
  injection hc' with hc'
  injection hc' with _ q _
  exact he q
theorem Gr2.grown{w w1:World}{a b:Nat}(h:Gr2 w w1 a b)(hb:w.heap.size≤b):w.grownBy w1 (some a):=
 ⟨h.os,h.tape,h.output,h.size,fun i hi hne=>h.block i hi (fun e=>hne (by rw[e])) (by omega)⟩
structure Pg(oz:Nat)(w0:World)(gl cl p D B N:Nat)(xs:List Int)(et:TypeId)(ev:Value):Prop where
 l0:xs.length≤1048576
 l1:xs.length≤cl
 g:gl<w0.heap.size
 a:AtBO w0 gl oz xs
 e:w0.cell? ⟨0,0,none⟩=some (.iface et ev)
 z:0<w0.heap.size
 p0:w0.heap.size≤p
 p1:p<N
 d0:w0.heap.size≤D
 d1:D<N
 q0:w0.heap.size≤B
 q1:B<N
 pd:p≠D
 pq:p≠B
 dq:D≠B
structure Rs(w0 W:World)(p D B N:Nat)(s:Int)(x:Ix):Prop where
 pl:Pl W w0.heap.size p s
 bx:Box W w0.heap.size D (.slice x.aa x.b.ac.length x.ca) (.slice x.ai x.b.ic.length x.ci) (.slice x.ab x.b.bs.length x.cb) (.slice x.al x.b.ls.length x.cl) (.slice x.ats x.b.ts.length x.ct) (.int .i64 x.b.lot)
 o:OwV W N x
 q:W.heap[B]?=some (.cells #[.pointer (some ⟨D,0,none⟩)] 124 (0,0))
 b:Below w0.heap.size w0 W
 n:N≤W.heap.size
theorem Rs.step{w0 W W':World}{p D B N:Nat}{s:Int}{x:Ix}(h:Rs w0 W p D B N s x)(k:Below W.heap.size W W'):Rs w0 W' p D B N s x:=
 ⟨h.pl.below k h.pl.lt.2,h.bx.below k h.bx.lt.2,⟨row_step h.o.oa k,row_step h.o.oi k,row_step h.o.ob k,row_step h.o.ol k,row_step h.o.ot k⟩,(k.block B (Array.getElem?_eq_some_iff.1 h.q).1).trans h.q,h.b.trans (k.mono h.b.size),Nat.le_trans h.n k.size⟩
theorem Rs.cellB{w0 W:World}{p D B N:Nat}{s:Int}{x:Ix}(h:Rs w0 W p D B N s x):W.cell? ⟨B,0,none⟩=some (.pointer (some ⟨D,0,none⟩)):=by
 have:=h.q
 simp[World.cell?,this]
theorem Rs.ltB{w0 W:World}{p D B N:Nat}{s:Int}{x:Ix}(h:Rs w0 W p D B N s x):B<W.heap.size:=(Array.getElem?_eq_some_iff.1 h.q).1
theorem Rs.moved{w0 W W':World}{p D B N:Nat}{s s':Int}{x:Ix}(h:Rs w0 W p D B N s x)(k:W.grownBy W' (some p))(p0:w0.heap.size≤p)(p1:p<N)(pd:p≠D)(pq:p≠B)(hp:Pl W' w0.heap.size p s'):Rs w0 W' p D B N s' x:=
 ⟨hp,h.bx.kept k (fun e=>pd (by injection e with e;exact e.symm)),⟨row_kept h.o.oa k p1,row_kept h.o.oi k p1,row_kept h.o.ob k p1,row_kept h.o.ol k p1,row_kept h.o.ot k p1⟩,(k.block B h.ltB (fun e=>pq (by injection e with e;exact e.symm))).trans h.q,h.b.grown k h.b.size (fun j hj=>by injection hj with hj;omega),Nat.le_trans h.n k.size⟩
theorem Rs.typP{w0 W:World}{p D B N:Nat}{s:Int}{x:Ix}(h:Rs w0 W p D B N s x):∃o,W.heap[p]?=some o∧keptT o=false:=by
 obtain⟨c,hc⟩:=row_typ h.pl p rfl
 exact⟨_,hc,rfl⟩
def ClS(k:Nat)(r:List Int×Int×Bool)(w0 W:World)(p D B N:Nat)(x:Ix)(e:Ending)(W':World):Prop:=
 (r.2.2=false∧Pan e∧Below w0.heap.size w0 W')∨(r.2.2=true∧e= .returned (.tuple #[])∧Kp W W'∧∃x',x'.b=addRow k r.1 x.b∧Rs w0 W' p D B N r.2.1 x')
theorem list2{l:List Int}(h:l.length=2):∃a b,l=[a,b]:=by
 match l,h with
 |[a,b],_=>exact⟨a,b,rfl⟩
theorem list3{l:List Int}(h:l.length=3):∃a b c,l=[a,b,c]:=by
 match l,h with
 |[a,b,c],_=>exact⟨a,b,c,rfl⟩
theorem list5{l:List Int}(h:l.length=5):∃a b c d e,l=[a,b,c,d,e]:=by
 match l,h with
 |[a,b,c,d,e],_=>exact⟨a,b,c,d,e,rfl⟩
theorem list8{l:List Int}(h:l.length=8):∃a b c d e f g i,l=[a,b,c,d,e,f,g,i]:=by
 match l,h with
 |[a,b,c,d,e,f,g,i],_=>exact⟨a,b,c,d,e,f,g,i,rfl⟩
theorem row_out{W:World}{base d:Nat}{e:TypeId}{m:Nat}{v:Value}{n:Nat}{vs:List Value}(h:W.ownsRow base e m v n vs)(hd:W.heap.size≤d):v.ownBlock=none∨v.ownBlock≠some d:=by
 cases q:v.ownBlock with
 |none=>exact .inl rfl
 |some j=>
  refine .inr fun e=>?_
  have:=(World.ownsRow.lt h j q).2
  injection e with e
  omega
theorem rs_drew{w0 W:World}{p D B N:Nat}{s:Int}{x:Ix}(h:Rs w0 W p D B N s x):Rs w0 W.drew p D B N s x:=⟨h.pl,h.bx,⟨h.o.oa,h.o.oi,h.o.ob,h.o.ol,h.o.ot⟩,h.q,h.b.drew,h.n⟩
abbrev oC00:Oper:={dst:=some 10,op:=Go.Op.load 124 (Go.Operand.tmp 1),type:=124,pos:= "l13_save.go:66",after:= #[],guard:=none}
abbrev oC01:Oper:={dst:=some 11,op:=Go.Op.load 124 (Go.Operand.tmp 1),type:=124,pos:= "l13_save.go:66",after:= #[],guard:=none}
abbrev oC02:Oper:={dst:=some 12,op:=Go.Op.nilCheck (Go.Operand.tmp 11),type:=0,pos:= "l13_save.go:66",after:= #[{on:=1,ground:=Go.Ground.data}],guard:=none}
abbrev oC03:Oper:={dst:=some 13,op:=Go.Op.fieldAddr 32 (Go.Operand.tmp 12) 0,type:=0,pos:= "l13_save.go:66",after:= #[{on:=2,ground:=Go.Ground.data}],guard:=none}
abbrev oC04:Oper:={dst:=some 14,op:=Go.Op.load 26 (Go.Operand.tmp 13),type:=26,pos:= "l13_save.go:66",after:= #[{on:=3,ground:=Go.Ground.data}],guard:=none}
abbrev oC05:Oper:={dst:=some 15,op:=Go.Op.load 75 (Go.Operand.tmp 3),type:=75,pos:= "l13_save.go:66",after:= #[],guard:=none}
abbrev oC06:Oper:={dst:=some 16,op:=Go.Op.buildSlice 26 1 #[(0,Go.Operand.tmp 15)],type:=26,pos:= "l13_save.go:66",after:= #[{on:=5,ground:=Go.Ground.data}],guard:=none}
abbrev oC07:Oper:={dst:=some 17,op:=Go.Op.call {callee:=Go.Callee.builtin Go.Builtin.append,args:= #[Go.Operand.tmp 14,Go.Operand.tmp 16],argTypes:= #[26,26]},type:=26,pos:= "l13_save.go:66",after:= #[{on:=4,ground:=Go.Ground.data},{on:=6,ground:=Go.Ground.data}],guard:=none}
abbrev oC08:Oper:={dst:=some 18,op:=Go.Op.nilCheck (Go.Operand.tmp 10),type:=0,pos:= "l13_save.go:66",after:= #[{on:=0,ground:=Go.Ground.data},{on:=0,ground:=Go.Ground.phase},{on:=1,ground:=Go.Ground.phase},{on:=2,ground:=Go.Ground.phase},{on:=3,ground:=Go.Ground.phase},{on:=4,ground:=Go.Ground.phase},{on:=5,ground:=Go.Ground.phase},{on:=6,ground:=Go.Ground.phase},{on:=7,ground:=Go.Ground.phase}],guard:=none}
abbrev oC09:Oper:={dst:=some 19,op:=Go.Op.fieldAddr 32 (Go.Operand.tmp 18) 0,type:=0,pos:= "l13_save.go:66",after:= #[{on:=8,ground:=Go.Ground.data},{on:=0,ground:=Go.Ground.phase},{on:=1,ground:=Go.Ground.phase},{on:=2,ground:=Go.Ground.phase},{on:=3,ground:=Go.Ground.phase},{on:=4,ground:=Go.Ground.phase},{on:=5,ground:=Go.Ground.phase},{on:=6,ground:=Go.Ground.phase},{on:=7,ground:=Go.Ground.phase}],guard:=none}
abbrev oC010:Oper:={dst:=none,op:=Go.Op.store 26 (Go.Operand.tmp 19) (Go.Operand.tmp 17),type:=0,pos:= "l13_save.go:66",after:= #[{on:=9,ground:=Go.Ground.data},{on:=7,ground:=Go.Ground.data},{on:=7,ground:=Go.Ground.chain},{on:=0,ground:=Go.Ground.phase},{on:=1,ground:=Go.Ground.phase},{on:=2,ground:=Go.Ground.phase},{on:=3,ground:=Go.Ground.phase},{on:=4,ground:=Go.Ground.phase},{on:=5,ground:=Go.Ground.phase},{on:=6,ground:=Go.Ground.phase},{on:=7,ground:=Go.Ground.phase}],guard:=none}
abbrev oC10:Oper:={dst:=some 10,op:=Go.Op.load 124 (Go.Operand.tmp 1),type:=124,pos:= "l13_save.go:71",after:= #[],guard:=none}
abbrev oC11:Oper:={dst:=some 11,op:=Go.Op.load 124 (Go.Operand.tmp 1),type:=124,pos:= "l13_save.go:71",after:= #[],guard:=none}
abbrev oC12:Oper:={dst:=some 12,op:=Go.Op.nilCheck (Go.Operand.tmp 11),type:=0,pos:= "l13_save.go:71",after:= #[{on:=1,ground:=Go.Ground.data}],guard:=none}
abbrev oC13:Oper:={dst:=some 13,op:=Go.Op.fieldAddr 32 (Go.Operand.tmp 12) 1,type:=0,pos:= "l13_save.go:71",after:= #[{on:=2,ground:=Go.Ground.data}],guard:=none}
abbrev oC14:Oper:={dst:=some 14,op:=Go.Op.load 27 (Go.Operand.tmp 13),type:=27,pos:= "l13_save.go:71",after:= #[{on:=3,ground:=Go.Ground.data}],guard:=none}
abbrev oC15:Oper:={dst:=some 15,op:=Go.Op.load 76 (Go.Operand.tmp 3),type:=76,pos:= "l13_save.go:71",after:= #[],guard:=none}
abbrev oC16:Oper:={dst:=some 16,op:=Go.Op.buildSlice 27 1 #[(0,Go.Operand.tmp 15)],type:=27,pos:= "l13_save.go:71",after:= #[{on:=5,ground:=Go.Ground.data}],guard:=none}
abbrev oC17:Oper:={dst:=some 17,op:=Go.Op.call {callee:=Go.Callee.builtin Go.Builtin.append,args:= #[Go.Operand.tmp 14,Go.Operand.tmp 16],argTypes:= #[27,27]},type:=27,pos:= "l13_save.go:71",after:= #[{on:=4,ground:=Go.Ground.data},{on:=6,ground:=Go.Ground.data}],guard:=none}
abbrev oC18:Oper:={dst:=some 18,op:=Go.Op.nilCheck (Go.Operand.tmp 10),type:=0,pos:= "l13_save.go:71",after:= #[{on:=0,ground:=Go.Ground.data},{on:=0,ground:=Go.Ground.phase},{on:=1,ground:=Go.Ground.phase},{on:=2,ground:=Go.Ground.phase},{on:=3,ground:=Go.Ground.phase},{on:=4,ground:=Go.Ground.phase},{on:=5,ground:=Go.Ground.phase},{on:=6,ground:=Go.Ground.phase},{on:=7,ground:=Go.Ground.phase}],guard:=none}
abbrev oC19:Oper:={dst:=some 19,op:=Go.Op.fieldAddr 32 (Go.Operand.tmp 18) 1,type:=0,pos:= "l13_save.go:71",after:= #[{on:=8,ground:=Go.Ground.data},{on:=0,ground:=Go.Ground.phase},{on:=1,ground:=Go.Ground.phase},{on:=2,ground:=Go.Ground.phase},{on:=3,ground:=Go.Ground.phase},{on:=4,ground:=Go.Ground.phase},{on:=5,ground:=Go.Ground.phase},{on:=6,ground:=Go.Ground.phase},{on:=7,ground:=Go.Ground.phase}],guard:=none}
abbrev oC110:Oper:={dst:=none,op:=Go.Op.store 27 (Go.Operand.tmp 19) (Go.Operand.tmp 17),type:=0,pos:= "l13_save.go:71",after:= #[{on:=9,ground:=Go.Ground.data},{on:=7,ground:=Go.Ground.data},{on:=7,ground:=Go.Ground.chain},{on:=0,ground:=Go.Ground.phase},{on:=1,ground:=Go.Ground.phase},{on:=2,ground:=Go.Ground.phase},{on:=3,ground:=Go.Ground.phase},{on:=4,ground:=Go.Ground.phase},{on:=5,ground:=Go.Ground.phase},{on:=6,ground:=Go.Ground.phase},{on:=7,ground:=Go.Ground.phase}],guard:=none}
abbrev oC20:Oper:={dst:=some 15,op:=Go.Op.load 124 (Go.Operand.tmp 1),type:=124,pos:= "l13_save.go:77",after:= #[],guard:=none}
abbrev oC21:Oper:={dst:=some 16,op:=Go.Op.load 124 (Go.Operand.tmp 1),type:=124,pos:= "l13_save.go:77",after:= #[],guard:=none}
abbrev oC22:Oper:={dst:=some 17,op:=Go.Op.nilCheck (Go.Operand.tmp 16),type:=0,pos:= "l13_save.go:77",after:= #[{on:=1,ground:=Go.Ground.data}],guard:=none}
abbrev oC23:Oper:={dst:=some 18,op:=Go.Op.fieldAddr 32 (Go.Operand.tmp 17) 2,type:=0,pos:= "l13_save.go:77",after:= #[{on:=2,ground:=Go.Ground.data}],guard:=none}
abbrev oC24:Oper:={dst:=some 19,op:=Go.Op.load 28 (Go.Operand.tmp 18),type:=28,pos:= "l13_save.go:77",after:= #[{on:=3,ground:=Go.Ground.data}],guard:=none}
abbrev oC25:Oper:={dst:=some 20,op:=Go.Op.load 78 (Go.Operand.tmp 3),type:=78,pos:= "l13_save.go:77",after:= #[],guard:=none}
abbrev oC26:Oper:={dst:=some 21,op:=Go.Op.buildSlice 28 1 #[(0,Go.Operand.tmp 20)],type:=28,pos:= "l13_save.go:77",after:= #[{on:=5,ground:=Go.Ground.data}],guard:=none}
abbrev oC27:Oper:={dst:=some 22,op:=Go.Op.call {callee:=Go.Callee.builtin Go.Builtin.append,args:= #[Go.Operand.tmp 19,Go.Operand.tmp 21],argTypes:= #[28,28]},type:=28,pos:= "l13_save.go:77",after:= #[{on:=4,ground:=Go.Ground.data},{on:=6,ground:=Go.Ground.data}],guard:=none}
abbrev oC28:Oper:={dst:=some 23,op:=Go.Op.nilCheck (Go.Operand.tmp 15),type:=0,pos:= "l13_save.go:77",after:= #[{on:=0,ground:=Go.Ground.data},{on:=0,ground:=Go.Ground.phase},{on:=1,ground:=Go.Ground.phase},{on:=2,ground:=Go.Ground.phase},{on:=3,ground:=Go.Ground.phase},{on:=4,ground:=Go.Ground.phase},{on:=5,ground:=Go.Ground.phase},{on:=6,ground:=Go.Ground.phase},{on:=7,ground:=Go.Ground.phase}],guard:=none}
abbrev oC29:Oper:={dst:=some 24,op:=Go.Op.fieldAddr 32 (Go.Operand.tmp 23) 2,type:=0,pos:= "l13_save.go:77",after:= #[{on:=8,ground:=Go.Ground.data},{on:=0,ground:=Go.Ground.phase},{on:=1,ground:=Go.Ground.phase},{on:=2,ground:=Go.Ground.phase},{on:=3,ground:=Go.Ground.phase},{on:=4,ground:=Go.Ground.phase},{on:=5,ground:=Go.Ground.phase},{on:=6,ground:=Go.Ground.phase},{on:=7,ground:=Go.Ground.phase}],guard:=none}
abbrev oC210:Oper:={dst:=none,op:=Go.Op.store 28 (Go.Operand.tmp 24) (Go.Operand.tmp 22),type:=0,pos:= "l13_save.go:77",after:= #[{on:=9,ground:=Go.Ground.data},{on:=7,ground:=Go.Ground.data},{on:=7,ground:=Go.Ground.chain},{on:=0,ground:=Go.Ground.phase},{on:=1,ground:=Go.Ground.phase},{on:=2,ground:=Go.Ground.phase},{on:=3,ground:=Go.Ground.phase},{on:=4,ground:=Go.Ground.phase},{on:=5,ground:=Go.Ground.phase},{on:=6,ground:=Go.Ground.phase},{on:=7,ground:=Go.Ground.phase}],guard:=none}
abbrev oC30:Oper:={dst:=some 13,op:=Go.Op.load 124 (Go.Operand.tmp 1),type:=124,pos:= "l13_save.go:82",after:= #[],guard:=none}
abbrev oC31:Oper:={dst:=some 14,op:=Go.Op.load 124 (Go.Operand.tmp 1),type:=124,pos:= "l13_save.go:82",after:= #[],guard:=none}
abbrev oC32:Oper:={dst:=some 15,op:=Go.Op.nilCheck (Go.Operand.tmp 14),type:=0,pos:= "l13_save.go:82",after:= #[{on:=1,ground:=Go.Ground.data}],guard:=none}
abbrev oC33:Oper:={dst:=some 16,op:=Go.Op.fieldAddr 32 (Go.Operand.tmp 15) 3,type:=0,pos:= "l13_save.go:82",after:= #[{on:=2,ground:=Go.Ground.data}],guard:=none}
abbrev oC34:Oper:={dst:=some 17,op:=Go.Op.load 29 (Go.Operand.tmp 16),type:=29,pos:= "l13_save.go:82",after:= #[{on:=3,ground:=Go.Ground.data}],guard:=none}
abbrev oC35:Oper:={dst:=some 18,op:=Go.Op.load 80 (Go.Operand.tmp 3),type:=80,pos:= "l13_save.go:82",after:= #[],guard:=none}
abbrev oC36:Oper:={dst:=some 19,op:=Go.Op.buildSlice 29 1 #[(0,Go.Operand.tmp 18)],type:=29,pos:= "l13_save.go:82",after:= #[{on:=5,ground:=Go.Ground.data}],guard:=none}
abbrev oC37:Oper:={dst:=some 20,op:=Go.Op.call {callee:=Go.Callee.builtin Go.Builtin.append,args:= #[Go.Operand.tmp 17,Go.Operand.tmp 19],argTypes:= #[29,29]},type:=29,pos:= "l13_save.go:82",after:= #[{on:=4,ground:=Go.Ground.data},{on:=6,ground:=Go.Ground.data}],guard:=none}
abbrev oC38:Oper:={dst:=some 21,op:=Go.Op.nilCheck (Go.Operand.tmp 13),type:=0,pos:= "l13_save.go:82",after:= #[{on:=0,ground:=Go.Ground.data},{on:=0,ground:=Go.Ground.phase},{on:=1,ground:=Go.Ground.phase},{on:=2,ground:=Go.Ground.phase},{on:=3,ground:=Go.Ground.phase},{on:=4,ground:=Go.Ground.phase},{on:=5,ground:=Go.Ground.phase},{on:=6,ground:=Go.Ground.phase},{on:=7,ground:=Go.Ground.phase}],guard:=none}
abbrev oC39:Oper:={dst:=some 22,op:=Go.Op.fieldAddr 32 (Go.Operand.tmp 21) 3,type:=0,pos:= "l13_save.go:82",after:= #[{on:=8,ground:=Go.Ground.data},{on:=0,ground:=Go.Ground.phase},{on:=1,ground:=Go.Ground.phase},{on:=2,ground:=Go.Ground.phase},{on:=3,ground:=Go.Ground.phase},{on:=4,ground:=Go.Ground.phase},{on:=5,ground:=Go.Ground.phase},{on:=6,ground:=Go.Ground.phase},{on:=7,ground:=Go.Ground.phase}],guard:=none}
abbrev oC310:Oper:={dst:=none,op:=Go.Op.store 29 (Go.Operand.tmp 22) (Go.Operand.tmp 20),type:=0,pos:= "l13_save.go:82",after:= #[{on:=9,ground:=Go.Ground.data},{on:=7,ground:=Go.Ground.data},{on:=7,ground:=Go.Ground.chain},{on:=0,ground:=Go.Ground.phase},{on:=1,ground:=Go.Ground.phase},{on:=2,ground:=Go.Ground.phase},{on:=3,ground:=Go.Ground.phase},{on:=4,ground:=Go.Ground.phase},{on:=5,ground:=Go.Ground.phase},{on:=6,ground:=Go.Ground.phase},{on:=7,ground:=Go.Ground.phase}],guard:=none}
abbrev oC40:Oper:={dst:=some 16,op:=Go.Op.load 124 (Go.Operand.tmp 1),type:=124,pos:= "l13_save.go:87",after:= #[],guard:=none}
abbrev oC41:Oper:={dst:=some 17,op:=Go.Op.load 124 (Go.Operand.tmp 1),type:=124,pos:= "l13_save.go:87",after:= #[],guard:=none}
abbrev oC42:Oper:={dst:=some 18,op:=Go.Op.nilCheck (Go.Operand.tmp 17),type:=0,pos:= "l13_save.go:87",after:= #[{on:=1,ground:=Go.Ground.data}],guard:=none}
abbrev oC43:Oper:={dst:=some 19,op:=Go.Op.fieldAddr 32 (Go.Operand.tmp 18) 4,type:=0,pos:= "l13_save.go:87",after:= #[{on:=2,ground:=Go.Ground.data}],guard:=none}
abbrev oC44:Oper:={dst:=some 20,op:=Go.Op.load 30 (Go.Operand.tmp 19),type:=30,pos:= "l13_save.go:87",after:= #[{on:=3,ground:=Go.Ground.data}],guard:=none}
abbrev oC45:Oper:={dst:=some 21,op:=Go.Op.load 82 (Go.Operand.tmp 3),type:=82,pos:= "l13_save.go:87",after:= #[],guard:=none}
abbrev oC46:Oper:={dst:=some 22,op:=Go.Op.buildSlice 30 1 #[(0,Go.Operand.tmp 21)],type:=30,pos:= "l13_save.go:87",after:= #[{on:=5,ground:=Go.Ground.data}],guard:=none}
abbrev oC47:Oper:={dst:=some 23,op:=Go.Op.call {callee:=Go.Callee.builtin Go.Builtin.append,args:= #[Go.Operand.tmp 20,Go.Operand.tmp 22],argTypes:= #[30,30]},type:=30,pos:= "l13_save.go:87",after:= #[{on:=4,ground:=Go.Ground.data},{on:=6,ground:=Go.Ground.data}],guard:=none}
abbrev oC48:Oper:={dst:=some 24,op:=Go.Op.nilCheck (Go.Operand.tmp 16),type:=0,pos:= "l13_save.go:87",after:= #[{on:=0,ground:=Go.Ground.data},{on:=0,ground:=Go.Ground.phase},{on:=1,ground:=Go.Ground.phase},{on:=2,ground:=Go.Ground.phase},{on:=3,ground:=Go.Ground.phase},{on:=4,ground:=Go.Ground.phase},{on:=5,ground:=Go.Ground.phase},{on:=6,ground:=Go.Ground.phase},{on:=7,ground:=Go.Ground.phase}],guard:=none}
abbrev oC49:Oper:={dst:=some 25,op:=Go.Op.fieldAddr 32 (Go.Operand.tmp 24) 4,type:=0,pos:= "l13_save.go:87",after:= #[{on:=8,ground:=Go.Ground.data},{on:=0,ground:=Go.Ground.phase},{on:=1,ground:=Go.Ground.phase},{on:=2,ground:=Go.Ground.phase},{on:=3,ground:=Go.Ground.phase},{on:=4,ground:=Go.Ground.phase},{on:=5,ground:=Go.Ground.phase},{on:=6,ground:=Go.Ground.phase},{on:=7,ground:=Go.Ground.phase}],guard:=none}
abbrev oC410:Oper:={dst:=none,op:=Go.Op.store 30 (Go.Operand.tmp 25) (Go.Operand.tmp 23),type:=0,pos:= "l13_save.go:87",after:= #[{on:=9,ground:=Go.Ground.data},{on:=7,ground:=Go.Ground.data},{on:=7,ground:=Go.Ground.chain},{on:=0,ground:=Go.Ground.phase},{on:=1,ground:=Go.Ground.phase},{on:=2,ground:=Go.Ground.phase},{on:=3,ground:=Go.Ground.phase},{on:=4,ground:=Go.Ground.phase},{on:=5,ground:=Go.Ground.phase},{on:=6,ground:=Go.Ground.phase},{on:=7,ground:=Go.Ground.phase}],guard:=none}
theorem cl0(w0 W:World)(gl cl p D B N:Nat)(xs:List Int)(et:TypeId)(ev:Value)(s:Int)(x:Ix)(G:Pg oz w0 gl cl p D B N xs et ev)(R:Rs w0 W p D B N s x)(hs:s≤9223372036854775807)(hl:x.b.ac.length≤1000):
  Calls Tryz.prog 97 #[.agg #[.slice (some ⟨gl,oz,none⟩) xs.length cl,.pointer (some ⟨p,0,none⟩)],.pointer (some ⟨B,0,none⟩)] W (ClS 0 (gets xs 2 s []) w0 W p D B N x):=by
 obtain⟨l0,l1,g,a,e,z,p0,p1,d0,d1,q0,q1,pd,pq,dq⟩:=G
 have nn:=R.n
 have BU:=zh (show Below W.heap.size W (((W.alloc (.cells #[.slice (some ⟨gl,oz,none⟩) xs.length cl,.pointer (some ⟨p,0,none⟩)] 92)).alloc (.cells #[.int .i64 0,.int .i64 0] 75)).alloc (.cells #[.pointer (some ⟨W.heap.size+1,0,none⟩),.pointer (some ⟨W.heap.size+1,1,none⟩)] 90)) from(((Below.refl _ _).alloc (Nat.le_refl _) _).alloc (by simp) _).alloc (by simp;omega) _)
 have RU:=zh (R.step (zu BU))
 have TU:=zh (show Tg (((W.alloc (.cells #[.slice (some ⟨gl,oz,none⟩) xs.length cl,.pointer (some ⟨p,0,none⟩)] 92)).alloc (.cells #[.int .i64 0,.int .i64 0] 75)).alloc (.cells #[.pointer (some ⟨W.heap.size+1,0,none⟩),.pointer (some ⟨W.heap.size+1,1,none⟩)] 90)) w0.heap.size 75 2 (W.heap.size+1) [.int .i64 0,.int .i64 0] from by
  have:=World.ownsRow.alloc (World.ownsRow_lit (base:=w0.heap.size) (size:=2) (e:=75) (W.alloc (.cells #[.slice (some ⟨gl,oz,none⟩) xs.length cl,.pointer (some ⟨p,0,none⟩)] 92)) #[.int .i64 0,.int .i64 0] 1 (by have:=R.b.size;simp;omega) (by decide) rfl) (.cells #[.pointer (some ⟨W.heap.size+1,0,none⟩),.pointer (some ⟨W.heap.size+1,1,none⟩)] 90)
  simpa[Tg] using this)
 have PU:=zh (show Ptr (((W.alloc (.cells #[.slice (some ⟨gl,oz,none⟩) xs.length cl,.pointer (some ⟨p,0,none⟩)] 92)).alloc (.cells #[.int .i64 0,.int .i64 0] 75)).alloc (.cells #[.pointer (some ⟨W.heap.size+1,0,none⟩),.pointer (some ⟨W.heap.size+1,1,none⟩)] 90)) (W.heap.size+2) (W.heap.size+1) 2 from fun i hi=>by
  have:i=0∨i=1:=by omega
  have q:=litm ((W.alloc (.cells #[.slice (some ⟨gl,oz,none⟩) xs.length cl,.pointer (some ⟨p,0,none⟩)] 92)).alloc (.cells #[.int .i64 0,.int .i64 0] 75)) [.pointer (some ⟨W.heap.size+1,0,none⟩),.pointer (some ⟨W.heap.size+1,1,none⟩)] 90 #[.pointer (some ⟨W.heap.size+1,0,none⟩),.pointer (some ⟨W.heap.size+1,1,none⟩)] rfl i
  rw[show((W.alloc (.cells #[.slice (some ⟨gl,oz,none⟩) xs.length cl,.pointer (some ⟨p,0,none⟩)] 92)).alloc (.cells #[.int .i64 0,.int .i64 0] 75)).heap.size=W.heap.size+2 by simp] at q
  rcases this with rfl|rfl<;>exact q _ rfl)
 have us:((((W.alloc (.cells #[.slice (some ⟨gl,oz,none⟩) xs.length cl,.pointer (some ⟨p,0,none⟩)] 92)).alloc (.cells #[.int .i64 0,.int .i64 0] 75)).alloc (.cells #[.pointer (some ⟨W.heap.size+1,0,none⟩),.pointer (some ⟨W.heap.size+1,1,none⟩)] 90))).heap.size=W.heap.size+3:=by simp
 have MU:=zh (iMust (((W.alloc (.cells #[.slice (some ⟨gl,oz,none⟩) xs.length cl,.pointer (some ⟨p,0,none⟩)] 92)).alloc (.cells #[.int .i64 0,.int .i64 0] 75)).alloc (.cells #[.pointer (some ⟨W.heap.size+1,0,none⟩),.pointer (some ⟨W.heap.size+1,1,none⟩)] 90)) gl cl p w0.heap.size 75 2 (W.heap.size+1) (W.heap.size+2) 2 2 xs s [.int .i64 0,.int .i64 0] ev et hs l0 l1 g (a.below (zu RU).b g) (zu RU).pl (zu TU) (fun i hi=>by
  have:i=0∨i=1:=by omega
  rcases this with rfl|rfl<;>exact⟨0,rfl⟩) (zu PU) (by omega) (by omega) (by omega) (by omega) (by omega) (((zu RU).b.cell (p:=⟨0,0,none⟩) z).trans e) z)
 have GL:=zh (gets_len xs 2 s [])
 have GA:=zh (gets_all xs 2 s [] (by simp))
 have RW:=zh R
 clear a e R TU PU us
 generalize gets xs 2 s []=r at *
 obtain⟨l,s',ok⟩:=r
 go_enter Tryz.func97,Tryz.ntmps97
 go_wp2_with fail
 refine(zu MU).mono ?_
 rintro e u (⟨h1,⟨eu,ee,rfl⟩,h3⟩|⟨h1,rfl,h3,h4,h5⟩)
 ·have b1:=(zu BU)
  have g3:=h3.to (B:=w0.heap.size) (by have:=(zu RW).b.size;have:=b1.size;omega) p0 (by have:=(zu RW).b.size;omega)
  exact⟨rfl,.inl ⟨h1,⟨eu,ee,rfl⟩,(zu RU).b.trans g3⟩⟩
 simp only at h1
 subst h1
 have ll:=(zu GL) rfl
 obtain⟨r0,r1,rfl⟩:=list2 (show l.length=2 from by simpa using ll)
 have GW:=zh (show W.grownBy u (some p) from Gr2.grown (((Gr2.refl W p (W.heap.size+1)).step (zu BU)).trans h3) (by omega))
 have RV:=zh ((zu RW).moved (zu GW) p0 p1 pd pq h4)
 have TV:=zh (show Tg u w0.heap.size 75 2 (W.heap.size+1) [.int .i64 r0,.int .i64 r1] from h5)
 have FA:=zh ((zu GA) rfl)
 have KV:=zh (Kp.grown (zu GW) (fun j hj=>by injection hj with hj;subst hj;exact(zu RW).typP))
 clear ll h3 h4 h5 GL GA MU RU BU GW
 have dl:=(zu TV).lt
 go_wp2_with fail
 have RX:=RV
 have KX:=KV
 have TX:=TV
 clear RV KV TV
 have dl:=(zu TX).lt
 have rl:=(zu RX).ltB
 have rn:=(zu RX).n
 have dD:=(zu RX).bx.lt.2
 have ro:=(zu RX).o.oa
 have e0:u.cell? ⟨W.heap.size+1,0,none⟩=some (.int .i64 r0):=(zu TX).at rfl
 have e1:u.cell? ⟨W.heap.size+1,1,none⟩=some (.int .i64 r1):=(zu TX).at rfl
 have eB:=(zu RX).cellB
 have bc:=(zu RX).bx.c0
 have NW:some (W.heap.size+1)≠(.slice x.aa x.b.ac.length x.ca:Value).ownBlock:=fun e=>by
  have:=(World.ownsRow.lt (zu RW).o.oa _ e.symm).2
  omega
 have K0:u.cell? ⟨B,0,none⟩=some (.pointer (some ⟨D,0,none⟩))∧u.cell? ⟨W.heap.size+1,0,none⟩=some (.int .i64 r0)∧u.cell? ⟨W.heap.size+1,1,none⟩=some (.int .i64 r1):=⟨eB,e0,e1⟩
 have KB:(u.drew.alloc (.cells #[.int .i64 r0,.int .i64 r1] 75)).cell? ⟨B,0,none⟩=some (.pointer (some ⟨D,0,none⟩))∧(u.drew.alloc (.cells #[.int .i64 r0,.int .i64 r1] 75)).cell? ⟨W.heap.size+1,0,none⟩=some (.int .i64 r0)∧(u.drew.alloc (.cells #[.int .i64 r0,.int .i64 r1] 75)).cell? ⟨W.heap.size+1,1,none⟩=some (.int .i64 r1):=⟨((one_more u.drew (.cells #[.int .i64 r0,.int .i64 r1] 75)).cell (p:=⟨B,0,none⟩) rl).trans eB,((one_more u.drew (.cells #[.int .i64 r0,.int .i64 r1] 75)).cell (p:=⟨W.heap.size+1,0,none⟩) dl.2).trans e0,((one_more u.drew (.cells #[.int .i64 r0,.int .i64 r1] 75)).cell (p:=⟨W.heap.size+1,1,none⟩) dl.2).trans e1⟩
 have bcD:u.drew.cell? ⟨D,0,none⟩=some (.slice x.aa x.b.ac.length x.ca):=bc
 have bcA:(u.alloc (.cells #[.int .i64 r0,.int .i64 r1] 75)).cell? ⟨D,0,none⟩=some (.slice x.aa x.b.ac.length x.ca):=((one_more u.drew (.cells #[.int .i64 r0,.int .i64 r1] 75)).cell (p:=⟨D,0,none⟩) dD).trans bc
 refine wp_region_held_drew (S:=(fun w'=>w'.cell? ⟨B,0,none⟩=some (.pointer (some ⟨D,0,none⟩))∧w'.cell? ⟨W.heap.size+1,0,none⟩=some (.int .i64 r0)∧w'.cell? ⟨W.heap.size+1,1,none⟩=some (.int .i64 r1))) (by kernel_rfl) K0 (fun hHeld=>?_)
 refine tk 0 oC00 (.pointer (some ⟨D,0,none⟩)) rfl (by kernel_rfl) (fun _ _ _ h=>h) (by rfl) (fun w hSw=>?_) hHeld ?_
 ·(try dsimp only at hSw)
  unfold oC00
  go_simp
 try simp only[oC00,Act.put,zA,zB,zC]
 refine tk 1 oC01 (.pointer (some ⟨D,0,none⟩)) rfl (by kernel_rfl) (fun _ _ _ h=>h) (by rfl) (fun w hSw=>?_) hHeld ?_
 ·(try dsimp only at hSw)
  unfold oC01
  go_simp
 try simp only[oC01,Act.put,zA,zB,zC]
 refine tk 2 oC02 (.pointer (some ⟨D,0,none⟩)) rfl (by kernel_rfl) (fun _ _ _ h=>h) (by rfl) (fun w hSw=>?_) hHeld ?_
 ·(try dsimp only at hSw)
  unfold oC02
  go_simp
 try simp only[oC02,Act.put,zA,zB,zC]
 refine tk 3 oC03 (.pointer (some ⟨D,0,none⟩)) rfl (by kernel_rfl) (fun _ _ _ h=>h) (by rfl) (fun w hSw=>?_) hHeld ?_
 ·(try dsimp only at hSw)
  unfold oC03
  go_simp
 try simp only[oC03,Act.put,zA,zB,zC]
 refine tk 5 oC05 (.agg #[.int .i64 r0,.int .i64 r1]) rfl (by kernel_rfl) (fun _ _ _ h=>h) (by rfl) (fun w hSw=>?_) hHeld ?_
 ·(try dsimp only at hSw)
  unfold oC05
  go_simp
 try simp only[oC05,Act.put,zA,zB,zC]
 refine wpAnyH_ready (rs:=[4,6]) (by kernel_rfl) (by simp) ?_
 refine AllReadyH.cons (o:=oC04) rfl (fun K hK=>?_) (AllReadyH.cons (o:=oC06) rfl (fun K hK=>?_) AllReadyH.nil)
 ·unfold oC04
  go_simp
  refine hK.out _ _ K0 (fun hHeld=>?_)
  clear hK K
  try simp only[oC04,Act.put,zA,zB,zC]
  refine wpAnyH_ready (rs:=[6]) (by kernel_rfl) (by simp) ?_
  refine AllReadyH.cons (o:=oC06) rfl (fun K hK=>?_) AllReadyH.nil
  unfold oC06
  go_simp
  refine hK.out _ _ KB (fun hHeld=>?_)
  clear hK K
  try simp only[oC06,Act.put,zA,zB,zC]
  refine wpAnyH_ready (rs:=[7]) (by kernel_rfl) (by simp) ?_
  refine AllReadyH.cons (o:=oC07) rfl (fun K hK=>?_) AllReadyH.nil
  refine step_app (u.drew.alloc (.cells #[.int .i64 r0,.int .i64 r1] 75)) (by rfl) _ _ 26 75 (by rfl) (.agg #[.int .i64 0,.int .i64 0]) 2 16 Tryz.underlying26 info_ac rfl (by decide) (by decide) N (.slice x.aa x.b.ac.length x.ca) x.b.ac.length (Pairs.flat x.b.ac) u.drew.heap.size [.int .i64 r0,.int .i64 r1] (by rfl) (by rfl) (row_step (W:=u.drew) ro (one_more u.drew (.cells #[.int .i64 r0,.int .i64 r1] 75))) rfl (litm u.drew _ _ _ (by rfl)) (by simp[Value.oneCell']) (by omega) (Nat.le_trans (show N≤u.drew.heap.size from rn) (by simp)) ?_
  intro g9 c9 u9 o9 gr9
  have BL:∀j,(.slice x.aa x.b.ac.length x.ca:Value).ownBlock=some j→N≤j:=fun j hj=>(World.ownsRow.lt ro j hj).1
  have BM:∀j,(.slice x.aa x.b.ac.length x.ca:Value).ownBlock=some j→j<u.heap.size:=fun j hj=>(World.ownsRow.lt ro j hj).2
  have NE:=NW
  have RA:=zh ((show Rs w0 u.drew p D B N s' x from rs_drew (zu RX)).step (one_more u.drew (.cells #[.int .i64 r0,.int .i64 r1] 75)))
  have R9:=zh (show Pl u9 w0.heap.size p s'∧Box u9 w0.heap.size D (.slice x.aa x.b.ac.length x.ca) (.slice x.ai x.b.ic.length x.ci) (.slice x.ab x.b.bs.length x.cb) (.slice x.al x.b.ls.length x.cl) (.slice x.ats x.b.ts.length x.ct) (.int .i64 x.b.lot) from⟨Ints.Own.kept (zu RA).pl gr9 (fun e=>by have:=BL _ e.symm;omega),(zu RA).bx.kept gr9 (fun e=>by have:=BL _ e.symm;omega)⟩)
  have O9:=zh o9
  have OO:=zh (show u9.ownsRow N 76 2 (.slice x.ai x.b.ic.length x.ci) x.b.ic.length (Pairs.flat x.b.ic)∧u9.ownsRow N 78 3 (.slice x.ab x.b.bs.length x.cb) x.b.bs.length (Triples.flat3 x.b.bs)∧u9.ownsRow N 80 5 (.slice x.al x.b.ls.length x.cl) x.b.ls.length (Tup5.flat5 x.b.ls)∧u9.ownsRow N 82 8 (.slice x.ats x.b.ts.length x.ct) x.b.ts.length (Tup8.flat8 x.b.ts) from⟨World.ownsRow.kept (zu RA).o.oi gr9 (row_ne (zu RA).o.oi (zu RA).o.oa (by decide)),World.ownsRow.kept (zu RA).o.ob gr9 (row_ne (zu RA).o.ob (zu RA).o.oa (by decide)),World.ownsRow.kept (zu RA).o.ol gr9 (row_ne (zu RA).o.ol (zu RA).o.oa (by decide)),World.ownsRow.kept (zu RA).o.ot gr9 (row_ne (zu RA).o.ot (zu RA).o.oa (by decide))⟩)
  have RR:=zh (show u9.heap[B]?=some (.cells #[.pointer (some ⟨D,0,none⟩)] 124 (0,0))∧Below w0.heap.size w0 u9∧N≤u9.heap.size from⟨(gr9.block B (by have:=(zu RA).ltB;exact this) (fun e=>by have:=BL _ e.symm;omega)).trans (zu RA).q,(zu RA).b.grown gr9 (zu RA).b.size (fun j hj=>by have:=BL _ hj;omega),Nat.le_trans (zu RA).n gr9.size⟩)
  have KA:=zh (show Kp W u9 from((zu KX).trans (Kp.drew (Kp.below (one_more u.drew (.cells #[.int .i64 r0,.int .i64 r1] 75))))).trans (Kp.grown gr9 (fun j hj=>by obtain⟨c,hc⟩:=row_typ (zu RA).o.oa j hj;exact⟨_,hc,rfl⟩)))
  have fr9:u9.frozen? ⟨D,0,none⟩=false:=(zu R9).2.free 0
  have bc9:=(zu R9).2.c0
  have SB:=zh ((zu R9).2.set0 (.slice (some ⟨g9,0,none⟩) (x.b.ac.length+1) c9))
  have KC:u9.cell? ⟨B,0,none⟩=some (.pointer (some ⟨D,0,none⟩))∧u9.cell? ⟨W.heap.size+1,0,none⟩=some (.int .i64 r0)∧u9.cell? ⟨W.heap.size+1,1,none⟩=some (.int .i64 r1):=⟨gr9.cell KB.1 (fun e=>by have:=BL _ e.symm;simp only at this;omega),gr9.cell KB.2.1 (fun e=>by exact NE e),gr9.cell KB.2.2 (fun e=>by exact NE e)⟩
  have KD:(u9.setCell ⟨D,0,none⟩ (.slice (some ⟨g9,0,none⟩) (x.b.ac.length+1) c9)).cell? ⟨B,0,none⟩=some (.pointer (some ⟨D,0,none⟩))∧(u9.setCell ⟨D,0,none⟩ (.slice (some ⟨g9,0,none⟩) (x.b.ac.length+1) c9)).cell? ⟨W.heap.size+1,0,none⟩=some (.int .i64 r0)∧(u9.setCell ⟨D,0,none⟩ (.slice (some ⟨g9,0,none⟩) (x.b.ac.length+1) c9)).cell? ⟨W.heap.size+1,1,none⟩=some (.int .i64 r1):=⟨(cell_grown (zu SB).2 0 (g:=B) (by have:=(zu RA).ltB;have:=gr9.size;omega) (fun e=>dq e.symm)).trans KC.1,(cell_grown (zu SB).2 0 (g:=W.heap.size+1) (by have:=gr9.size;simp at this;omega) (by omega)).trans KC.2.1,(cell_grown (zu SB).2 1 (g:=W.heap.size+1) (by have:=gr9.size;simp at this;omega) (by omega)).trans KC.2.2⟩
  clear o9
  refine hK.out _ _ KC (fun hHeld=>?_)
  clear hK K
  try simp only[oC07,Act.put,zA,zB,zC]
  refine tk 8 oC08 (.pointer (some ⟨D,0,none⟩)) rfl (by kernel_rfl) (fun _ _ _ h=>h) (by rfl) (fun w hSw=>?_) hHeld ?_
  ·(try dsimp only at hSw)
   unfold oC08
   go_simp
  try simp only[oC08,Act.put,zA,zB,zC]
  refine tk 9 oC09 (.pointer (some ⟨D,0,none⟩)) rfl (by kernel_rfl) (fun _ _ _ h=>h) (by rfl) (fun w hSw=>?_) hHeld ?_
  ·(try dsimp only at hSw)
   unfold oC09
   go_simp
  try simp only[oC09,Act.put,zA,zB,zC]
  refine wpAnyH_ready (rs:=[10]) (by kernel_rfl) (by simp) ?_
  refine AllReadyH.cons (o:=oC010) rfl (fun K hK=>?_) AllReadyH.nil
  unfold oC010
  go_simp
  refine hK.out _ _ KD (fun hHeld=>?_)
  clear hK K
  try simp only[oC010,Act.put,zA,zB,zC]
  refine wpAnyH_done (by kernel_rfl) ?_ _
  clear K0 KB KC KD bc bcD bcA bc9 fr9 eB e0 e1
  go_wp2
  go_end0
  obtain⟨sb,sg⟩:=zu SB
  obtain⟨h1,h2,h3,h4⟩:=zu OO
  obtain⟨q9,b9,n9⟩:=zu RR
  have ln:(x.b.ac++[r2 [r0,r1]]).length=x.b.ac.length+1:=by simp
  refine .inr ⟨rfl,rfl,(zu KA).trans (Kp.grown sg (fun j hj=>by injection hj with hj;subst hj;obtain⟨c,hc⟩:=row_typ (zu R9).2 _ rfl;exact⟨_,hc,rfl⟩)),(⟨some ⟨g9,0,none⟩,c9,x.ai,x.ci,x.ab,x.cb,x.al,x.cl,x.ats,x.ct,⟨x.b.ac++[r2 [r0,r1]],x.b.ic,x.b.bs,x.b.ls,x.b.ts,x.b.lot⟩⟩:Ix),rfl,⟨Ints.Own.kept (zu R9).1 sg (by simpa using pd),?_,⟨?_,row_kept h1 sg d1,row_kept h2 sg d1,row_kept h3 sg d1,row_kept h4 sg d1⟩,(sg.block B (by have:=Array.getElem?_eq_some_iff.1 q9;exact this.1) (fun e=>dq (by injection e with e;exact e.symm))).trans q9,b9.grown sg b9.size (fun j hj=>by injection hj with hj;omega),Nat.le_trans n9 sg.size⟩⟩
  ·show Box _ _ _ (.slice (some ⟨g9,0,none⟩) (x.b.ac++[r2 [r0,r1]]).length c9) (.slice x.ai x.b.ic.length x.ci) (.slice x.ab x.b.bs.length x.cb) (.slice x.al x.b.ls.length x.cl) (.slice x.ats x.b.ts.length x.ct) (.int .i64 x.b.lot)
   rw[ln]
   exact sb
  ·show World.ownsRow _ _ _ _ _ _ _
   have o:=row_kept (zu O9) sg d1
   simp only[ln]
   rw[show Pairs.flat (x.b.ac++[r2 [r0,r1]])=Pairs.flat x.b.ac++[.int .i64 r0,.int .i64 r1] from flat_p _ _ _]
   exact o
 ·unfold oC06
  go_simp
  refine hK.out _ _ KB (fun hHeld=>?_)
  clear hK K
  try simp only[oC06,Act.put,zA,zB,zC]
  refine wpAnyH_ready (rs:=[4]) (by kernel_rfl) (by simp) ?_
  refine AllReadyH.cons (o:=oC04) rfl (fun K hK=>?_) AllReadyH.nil
  unfold oC04
  go_simp
  refine hK.out _ _ KB (fun hHeld=>?_)
  clear hK K
  try simp only[oC04,Act.put,zA,zB,zC]
  refine wpAnyH_ready (rs:=[7]) (by kernel_rfl) (by simp) ?_
  refine AllReadyH.cons (o:=oC07) rfl (fun K hK=>?_) AllReadyH.nil
  refine step_app (u.drew.alloc (.cells #[.int .i64 r0,.int .i64 r1] 75)) (by rfl) _ _ 26 75 (by rfl) (.agg #[.int .i64 0,.int .i64 0]) 2 16 Tryz.underlying26 info_ac rfl (by decide) (by decide) N (.slice x.aa x.b.ac.length x.ca) x.b.ac.length (Pairs.flat x.b.ac) u.drew.heap.size [.int .i64 r0,.int .i64 r1] (by rfl) (by rfl) (row_step (W:=u.drew) ro (one_more u.drew (.cells #[.int .i64 r0,.int .i64 r1] 75))) rfl (litm u.drew _ _ _ (by rfl)) (by simp[Value.oneCell']) (by omega) (Nat.le_trans (show N≤u.drew.heap.size from rn) (by simp)) ?_
  intro g9 c9 u9 o9 gr9
  have BL:∀j,(.slice x.aa x.b.ac.length x.ca:Value).ownBlock=some j→N≤j:=fun j hj=>(World.ownsRow.lt ro j hj).1
  have BM:∀j,(.slice x.aa x.b.ac.length x.ca:Value).ownBlock=some j→j<u.heap.size:=fun j hj=>(World.ownsRow.lt ro j hj).2
  have NE:=NW
  have RA:=zh ((show Rs w0 u.drew p D B N s' x from rs_drew (zu RX)).step (one_more u.drew (.cells #[.int .i64 r0,.int .i64 r1] 75)))
  have R9:=zh (show Pl u9 w0.heap.size p s'∧Box u9 w0.heap.size D (.slice x.aa x.b.ac.length x.ca) (.slice x.ai x.b.ic.length x.ci) (.slice x.ab x.b.bs.length x.cb) (.slice x.al x.b.ls.length x.cl) (.slice x.ats x.b.ts.length x.ct) (.int .i64 x.b.lot) from⟨Ints.Own.kept (zu RA).pl gr9 (fun e=>by have:=BL _ e.symm;omega),(zu RA).bx.kept gr9 (fun e=>by have:=BL _ e.symm;omega)⟩)
  have O9:=zh o9
  have OO:=zh (show u9.ownsRow N 76 2 (.slice x.ai x.b.ic.length x.ci) x.b.ic.length (Pairs.flat x.b.ic)∧u9.ownsRow N 78 3 (.slice x.ab x.b.bs.length x.cb) x.b.bs.length (Triples.flat3 x.b.bs)∧u9.ownsRow N 80 5 (.slice x.al x.b.ls.length x.cl) x.b.ls.length (Tup5.flat5 x.b.ls)∧u9.ownsRow N 82 8 (.slice x.ats x.b.ts.length x.ct) x.b.ts.length (Tup8.flat8 x.b.ts) from⟨World.ownsRow.kept (zu RA).o.oi gr9 (row_ne (zu RA).o.oi (zu RA).o.oa (by decide)),World.ownsRow.kept (zu RA).o.ob gr9 (row_ne (zu RA).o.ob (zu RA).o.oa (by decide)),World.ownsRow.kept (zu RA).o.ol gr9 (row_ne (zu RA).o.ol (zu RA).o.oa (by decide)),World.ownsRow.kept (zu RA).o.ot gr9 (row_ne (zu RA).o.ot (zu RA).o.oa (by decide))⟩)
  have RR:=zh (show u9.heap[B]?=some (.cells #[.pointer (some ⟨D,0,none⟩)] 124 (0,0))∧Below w0.heap.size w0 u9∧N≤u9.heap.size from⟨(gr9.block B (by have:=(zu RA).ltB;exact this) (fun e=>by have:=BL _ e.symm;omega)).trans (zu RA).q,(zu RA).b.grown gr9 (zu RA).b.size (fun j hj=>by have:=BL _ hj;omega),Nat.le_trans (zu RA).n gr9.size⟩)
  have KA:=zh (show Kp W u9 from((zu KX).trans (Kp.drew (Kp.below (one_more u.drew (.cells #[.int .i64 r0,.int .i64 r1] 75))))).trans (Kp.grown gr9 (fun j hj=>by obtain⟨c,hc⟩:=row_typ (zu RA).o.oa j hj;exact⟨_,hc,rfl⟩)))
  have fr9:u9.frozen? ⟨D,0,none⟩=false:=(zu R9).2.free 0
  have bc9:=(zu R9).2.c0
  have SB:=zh ((zu R9).2.set0 (.slice (some ⟨g9,0,none⟩) (x.b.ac.length+1) c9))
  have KC:u9.cell? ⟨B,0,none⟩=some (.pointer (some ⟨D,0,none⟩))∧u9.cell? ⟨W.heap.size+1,0,none⟩=some (.int .i64 r0)∧u9.cell? ⟨W.heap.size+1,1,none⟩=some (.int .i64 r1):=⟨gr9.cell KB.1 (fun e=>by have:=BL _ e.symm;simp only at this;omega),gr9.cell KB.2.1 (fun e=>by exact NE e),gr9.cell KB.2.2 (fun e=>by exact NE e)⟩
  have KD:(u9.setCell ⟨D,0,none⟩ (.slice (some ⟨g9,0,none⟩) (x.b.ac.length+1) c9)).cell? ⟨B,0,none⟩=some (.pointer (some ⟨D,0,none⟩))∧(u9.setCell ⟨D,0,none⟩ (.slice (some ⟨g9,0,none⟩) (x.b.ac.length+1) c9)).cell? ⟨W.heap.size+1,0,none⟩=some (.int .i64 r0)∧(u9.setCell ⟨D,0,none⟩ (.slice (some ⟨g9,0,none⟩) (x.b.ac.length+1) c9)).cell? ⟨W.heap.size+1,1,none⟩=some (.int .i64 r1):=⟨(cell_grown (zu SB).2 0 (g:=B) (by have:=(zu RA).ltB;have:=gr9.size;omega) (fun e=>dq e.symm)).trans KC.1,(cell_grown (zu SB).2 0 (g:=W.heap.size+1) (by have:=gr9.size;simp at this;omega) (by omega)).trans KC.2.1,(cell_grown (zu SB).2 1 (g:=W.heap.size+1) (by have:=gr9.size;simp at this;omega) (by omega)).trans KC.2.2⟩
  clear o9
  refine hK.out _ _ KC (fun hHeld=>?_)
  clear hK K
  try simp only[oC07,Act.put,zA,zB,zC]
  refine tk 8 oC08 (.pointer (some ⟨D,0,none⟩)) rfl (by kernel_rfl) (fun _ _ _ h=>h) (by rfl) (fun w hSw=>?_) hHeld ?_
  ·(try dsimp only at hSw)
   unfold oC08
   go_simp
  try simp only[oC08,Act.put,zA,zB,zC]
  refine tk 9 oC09 (.pointer (some ⟨D,0,none⟩)) rfl (by kernel_rfl) (fun _ _ _ h=>h) (by rfl) (fun w hSw=>?_) hHeld ?_
  ·(try dsimp only at hSw)
   unfold oC09
   go_simp
  try simp only[oC09,Act.put,zA,zB,zC]
  refine wpAnyH_ready (rs:=[10]) (by kernel_rfl) (by simp) ?_
  refine AllReadyH.cons (o:=oC010) rfl (fun K hK=>?_) AllReadyH.nil
  unfold oC010
  go_simp
  refine hK.out _ _ KD (fun hHeld=>?_)
  clear hK K
  try simp only[oC010,Act.put,zA,zB,zC]
  refine wpAnyH_done (by kernel_rfl) ?_ _
  clear K0 KB KC KD bc bcD bcA bc9 fr9 eB e0 e1
  go_wp2
  go_end0
  obtain⟨sb,sg⟩:=zu SB
  obtain⟨h1,h2,h3,h4⟩:=zu OO
  obtain⟨q9,b9,n9⟩:=zu RR
  have ln:(x.b.ac++[r2 [r0,r1]]).length=x.b.ac.length+1:=by simp
  refine .inr ⟨rfl,rfl,(zu KA).trans (Kp.grown sg (fun j hj=>by injection hj with hj;subst hj;obtain⟨c,hc⟩:=row_typ (zu R9).2 _ rfl;exact⟨_,hc,rfl⟩)),(⟨some ⟨g9,0,none⟩,c9,x.ai,x.ci,x.ab,x.cb,x.al,x.cl,x.ats,x.ct,⟨x.b.ac++[r2 [r0,r1]],x.b.ic,x.b.bs,x.b.ls,x.b.ts,x.b.lot⟩⟩:Ix),rfl,⟨Ints.Own.kept (zu R9).1 sg (by simpa using pd),?_,⟨?_,row_kept h1 sg d1,row_kept h2 sg d1,row_kept h3 sg d1,row_kept h4 sg d1⟩,(sg.block B (by have:=Array.getElem?_eq_some_iff.1 q9;exact this.1) (fun e=>dq (by injection e with e;exact e.symm))).trans q9,b9.grown sg b9.size (fun j hj=>by injection hj with hj;omega),Nat.le_trans n9 sg.size⟩⟩
  ·show Box _ _ _ (.slice (some ⟨g9,0,none⟩) (x.b.ac++[r2 [r0,r1]]).length c9) (.slice x.ai x.b.ic.length x.ci) (.slice x.ab x.b.bs.length x.cb) (.slice x.al x.b.ls.length x.cl) (.slice x.ats x.b.ts.length x.ct) (.int .i64 x.b.lot)
   rw[ln]
   exact sb
  ·show World.ownsRow _ _ _ _ _ _ _
   have o:=row_kept (zu O9) sg d1
   simp only[ln]
   rw[show Pairs.flat (x.b.ac++[r2 [r0,r1]])=Pairs.flat x.b.ac++[.int .i64 r0,.int .i64 r1] from flat_p _ _ _]
   exact o
theorem cl1(w0 W:World)(gl cl p D B N:Nat)(xs:List Int)(et:TypeId)(ev:Value)(s:Int)(x:Ix)(G:Pg oz w0 gl cl p D B N xs et ev)(R:Rs w0 W p D B N s x)(hs:s≤9223372036854775807)(hl:x.b.ic.length≤1000):
  Calls Tryz.prog 98 #[.agg #[.slice (some ⟨gl,oz,none⟩) xs.length cl,.pointer (some ⟨p,0,none⟩)],.pointer (some ⟨B,0,none⟩)] W (ClS 1 (gets xs 2 s []) w0 W p D B N x):=by
 obtain⟨l0,l1,g,a,e,z,p0,p1,d0,d1,q0,q1,pd,pq,dq⟩:=G
 have nn:=R.n
 have BU:=zh (show Below W.heap.size W (((W.alloc (.cells #[.slice (some ⟨gl,oz,none⟩) xs.length cl,.pointer (some ⟨p,0,none⟩)] 92)).alloc (.cells #[.int .i64 0,.int .i64 0] 76)).alloc (.cells #[.pointer (some ⟨W.heap.size+1,0,none⟩),.pointer (some ⟨W.heap.size+1,1,none⟩)] 90)) from(((Below.refl _ _).alloc (Nat.le_refl _) _).alloc (by simp) _).alloc (by simp;omega) _)
 have RU:=zh (R.step (zu BU))
 have TU:=zh (show Tg (((W.alloc (.cells #[.slice (some ⟨gl,oz,none⟩) xs.length cl,.pointer (some ⟨p,0,none⟩)] 92)).alloc (.cells #[.int .i64 0,.int .i64 0] 76)).alloc (.cells #[.pointer (some ⟨W.heap.size+1,0,none⟩),.pointer (some ⟨W.heap.size+1,1,none⟩)] 90)) w0.heap.size 76 2 (W.heap.size+1) [.int .i64 0,.int .i64 0] from by
  have:=World.ownsRow.alloc (World.ownsRow_lit (base:=w0.heap.size) (size:=2) (e:=76) (W.alloc (.cells #[.slice (some ⟨gl,oz,none⟩) xs.length cl,.pointer (some ⟨p,0,none⟩)] 92)) #[.int .i64 0,.int .i64 0] 1 (by have:=R.b.size;simp;omega) (by decide) rfl) (.cells #[.pointer (some ⟨W.heap.size+1,0,none⟩),.pointer (some ⟨W.heap.size+1,1,none⟩)] 90)
  simpa[Tg] using this)
 have PU:=zh (show Ptr (((W.alloc (.cells #[.slice (some ⟨gl,oz,none⟩) xs.length cl,.pointer (some ⟨p,0,none⟩)] 92)).alloc (.cells #[.int .i64 0,.int .i64 0] 76)).alloc (.cells #[.pointer (some ⟨W.heap.size+1,0,none⟩),.pointer (some ⟨W.heap.size+1,1,none⟩)] 90)) (W.heap.size+2) (W.heap.size+1) 2 from fun i hi=>by
  have:i=0∨i=1:=by omega
  have q:=litm ((W.alloc (.cells #[.slice (some ⟨gl,oz,none⟩) xs.length cl,.pointer (some ⟨p,0,none⟩)] 92)).alloc (.cells #[.int .i64 0,.int .i64 0] 76)) [.pointer (some ⟨W.heap.size+1,0,none⟩),.pointer (some ⟨W.heap.size+1,1,none⟩)] 90 #[.pointer (some ⟨W.heap.size+1,0,none⟩),.pointer (some ⟨W.heap.size+1,1,none⟩)] rfl i
  rw[show((W.alloc (.cells #[.slice (some ⟨gl,oz,none⟩) xs.length cl,.pointer (some ⟨p,0,none⟩)] 92)).alloc (.cells #[.int .i64 0,.int .i64 0] 76)).heap.size=W.heap.size+2 by simp] at q
  rcases this with rfl|rfl<;>exact q _ rfl)
 have us:((((W.alloc (.cells #[.slice (some ⟨gl,oz,none⟩) xs.length cl,.pointer (some ⟨p,0,none⟩)] 92)).alloc (.cells #[.int .i64 0,.int .i64 0] 76)).alloc (.cells #[.pointer (some ⟨W.heap.size+1,0,none⟩),.pointer (some ⟨W.heap.size+1,1,none⟩)] 90))).heap.size=W.heap.size+3:=by simp
 have MU:=zh (iMust (((W.alloc (.cells #[.slice (some ⟨gl,oz,none⟩) xs.length cl,.pointer (some ⟨p,0,none⟩)] 92)).alloc (.cells #[.int .i64 0,.int .i64 0] 76)).alloc (.cells #[.pointer (some ⟨W.heap.size+1,0,none⟩),.pointer (some ⟨W.heap.size+1,1,none⟩)] 90)) gl cl p w0.heap.size 76 2 (W.heap.size+1) (W.heap.size+2) 2 2 xs s [.int .i64 0,.int .i64 0] ev et hs l0 l1 g (a.below (zu RU).b g) (zu RU).pl (zu TU) (fun i hi=>by
  have:i=0∨i=1:=by omega
  rcases this with rfl|rfl<;>exact⟨0,rfl⟩) (zu PU) (by omega) (by omega) (by omega) (by omega) (by omega) (((zu RU).b.cell (p:=⟨0,0,none⟩) z).trans e) z)
 have GL:=zh (gets_len xs 2 s [])
 have GA:=zh (gets_all xs 2 s [] (by simp))
 have RW:=zh R
 clear a e R TU PU us
 generalize gets xs 2 s []=r at *
 obtain⟨l,s',ok⟩:=r
 go_enter Tryz.func98,Tryz.ntmps98
 go_wp2_with fail
 refine(zu MU).mono ?_
 rintro e u (⟨h1,⟨eu,ee,rfl⟩,h3⟩|⟨h1,rfl,h3,h4,h5⟩)
 ·have b1:=(zu BU)
  have g3:=h3.to (B:=w0.heap.size) (by have:=(zu RW).b.size;have:=b1.size;omega) p0 (by have:=(zu RW).b.size;omega)
  exact⟨rfl,.inl ⟨h1,⟨eu,ee,rfl⟩,(zu RU).b.trans g3⟩⟩
 simp only at h1
 subst h1
 have ll:=(zu GL) rfl
 obtain⟨r0,r1,rfl⟩:=list2 (show l.length=2 from by simpa using ll)
 have GW:=zh (show W.grownBy u (some p) from Gr2.grown (((Gr2.refl W p (W.heap.size+1)).step (zu BU)).trans h3) (by omega))
 have RV:=zh ((zu RW).moved (zu GW) p0 p1 pd pq h4)
 have TV:=zh (show Tg u w0.heap.size 76 2 (W.heap.size+1) [.int .i64 r0,.int .i64 r1] from h5)
 have FA:=zh ((zu GA) rfl)
 have KV:=zh (Kp.grown (zu GW) (fun j hj=>by injection hj with hj;subst hj;exact(zu RW).typP))
 clear ll h3 h4 h5 GL GA MU RU BU GW
 have dl:=(zu TV).lt
 go_wp2_with fail
 have RX:=RV
 have KX:=KV
 have TX:=TV
 clear RV KV TV
 have dl:=(zu TX).lt
 have rl:=(zu RX).ltB
 have rn:=(zu RX).n
 have dD:=(zu RX).bx.lt.2
 have ro:=(zu RX).o.oi
 have e0:u.cell? ⟨W.heap.size+1,0,none⟩=some (.int .i64 r0):=(zu TX).at rfl
 have e1:u.cell? ⟨W.heap.size+1,1,none⟩=some (.int .i64 r1):=(zu TX).at rfl
 have eB:=(zu RX).cellB
 have bc:=(zu RX).bx.c1
 have NW:some (W.heap.size+1)≠(.slice x.ai x.b.ic.length x.ci:Value).ownBlock:=fun e=>by
  have:=(World.ownsRow.lt (zu RW).o.oi _ e.symm).2
  omega
 have K0:u.cell? ⟨B,0,none⟩=some (.pointer (some ⟨D,0,none⟩))∧u.cell? ⟨W.heap.size+1,0,none⟩=some (.int .i64 r0)∧u.cell? ⟨W.heap.size+1,1,none⟩=some (.int .i64 r1):=⟨eB,e0,e1⟩
 have KB:(u.drew.alloc (.cells #[.int .i64 r0,.int .i64 r1] 76)).cell? ⟨B,0,none⟩=some (.pointer (some ⟨D,0,none⟩))∧(u.drew.alloc (.cells #[.int .i64 r0,.int .i64 r1] 76)).cell? ⟨W.heap.size+1,0,none⟩=some (.int .i64 r0)∧(u.drew.alloc (.cells #[.int .i64 r0,.int .i64 r1] 76)).cell? ⟨W.heap.size+1,1,none⟩=some (.int .i64 r1):=⟨((one_more u.drew (.cells #[.int .i64 r0,.int .i64 r1] 76)).cell (p:=⟨B,0,none⟩) rl).trans eB,((one_more u.drew (.cells #[.int .i64 r0,.int .i64 r1] 76)).cell (p:=⟨W.heap.size+1,0,none⟩) dl.2).trans e0,((one_more u.drew (.cells #[.int .i64 r0,.int .i64 r1] 76)).cell (p:=⟨W.heap.size+1,1,none⟩) dl.2).trans e1⟩
 have bcD:u.drew.cell? ⟨D,1,none⟩=some (.slice x.ai x.b.ic.length x.ci):=bc
 have bcA:(u.alloc (.cells #[.int .i64 r0,.int .i64 r1] 76)).cell? ⟨D,1,none⟩=some (.slice x.ai x.b.ic.length x.ci):=((one_more u.drew (.cells #[.int .i64 r0,.int .i64 r1] 76)).cell (p:=⟨D,1,none⟩) dD).trans bc
 refine wp_region_held_drew (S:=(fun w'=>w'.cell? ⟨B,0,none⟩=some (.pointer (some ⟨D,0,none⟩))∧w'.cell? ⟨W.heap.size+1,0,none⟩=some (.int .i64 r0)∧w'.cell? ⟨W.heap.size+1,1,none⟩=some (.int .i64 r1))) (by kernel_rfl) K0 (fun hHeld=>?_)
 refine tk 0 oC10 (.pointer (some ⟨D,0,none⟩)) rfl (by kernel_rfl) (fun _ _ _ h=>h) (by rfl) (fun w hSw=>?_) hHeld ?_
 ·(try dsimp only at hSw)
  unfold oC10
  go_simp
 try simp only[oC10,Act.put,zA,zB,zC]
 refine tk 1 oC11 (.pointer (some ⟨D,0,none⟩)) rfl (by kernel_rfl) (fun _ _ _ h=>h) (by rfl) (fun w hSw=>?_) hHeld ?_
 ·(try dsimp only at hSw)
  unfold oC11
  go_simp
 try simp only[oC11,Act.put,zA,zB,zC]
 refine tk 2 oC12 (.pointer (some ⟨D,0,none⟩)) rfl (by kernel_rfl) (fun _ _ _ h=>h) (by rfl) (fun w hSw=>?_) hHeld ?_
 ·(try dsimp only at hSw)
  unfold oC12
  go_simp
 try simp only[oC12,Act.put,zA,zB,zC]
 refine tk 3 oC13 (.pointer (some ⟨D,1,none⟩)) rfl (by kernel_rfl) (fun _ _ _ h=>h) (by rfl) (fun w hSw=>?_) hHeld ?_
 ·(try dsimp only at hSw)
  unfold oC13
  go_simp
 try simp only[oC13,Act.put,zA,zB,zC]
 refine tk 5 oC15 (.agg #[.int .i64 r0,.int .i64 r1]) rfl (by kernel_rfl) (fun _ _ _ h=>h) (by rfl) (fun w hSw=>?_) hHeld ?_
 ·(try dsimp only at hSw)
  unfold oC15
  go_simp
 try simp only[oC15,Act.put,zA,zB,zC]
 refine wpAnyH_ready (rs:=[4,6]) (by kernel_rfl) (by simp) ?_
 refine AllReadyH.cons (o:=oC14) rfl (fun K hK=>?_) (AllReadyH.cons (o:=oC16) rfl (fun K hK=>?_) AllReadyH.nil)
 ·unfold oC14
  go_simp
  refine hK.out _ _ K0 (fun hHeld=>?_)
  clear hK K
  try simp only[oC14,Act.put,zA,zB,zC]
  refine wpAnyH_ready (rs:=[6]) (by kernel_rfl) (by simp) ?_
  refine AllReadyH.cons (o:=oC16) rfl (fun K hK=>?_) AllReadyH.nil
  unfold oC16
  go_simp
  refine hK.out _ _ KB (fun hHeld=>?_)
  clear hK K
  try simp only[oC16,Act.put,zA,zB,zC]
  refine wpAnyH_ready (rs:=[7]) (by kernel_rfl) (by simp) ?_
  refine AllReadyH.cons (o:=oC17) rfl (fun K hK=>?_) AllReadyH.nil
  refine step_app (u.drew.alloc (.cells #[.int .i64 r0,.int .i64 r1] 76)) (by rfl) _ _ 27 76 (by rfl) (.agg #[.int .i64 0,.int .i64 0]) 2 16 Tryz.underlying27 info_ic rfl (by decide) (by decide) N (.slice x.ai x.b.ic.length x.ci) x.b.ic.length (Pairs.flat x.b.ic) u.drew.heap.size [.int .i64 r0,.int .i64 r1] (by rfl) (by rfl) (row_step (W:=u.drew) ro (one_more u.drew (.cells #[.int .i64 r0,.int .i64 r1] 76))) rfl (litm u.drew _ _ _ (by rfl)) (by simp[Value.oneCell']) (by omega) (Nat.le_trans (show N≤u.drew.heap.size from rn) (by simp)) ?_
  intro g9 c9 u9 o9 gr9
  have BL:∀j,(.slice x.ai x.b.ic.length x.ci:Value).ownBlock=some j→N≤j:=fun j hj=>(World.ownsRow.lt ro j hj).1
  have BM:∀j,(.slice x.ai x.b.ic.length x.ci:Value).ownBlock=some j→j<u.heap.size:=fun j hj=>(World.ownsRow.lt ro j hj).2
  have NE:=NW
  have RA:=zh ((show Rs w0 u.drew p D B N s' x from rs_drew (zu RX)).step (one_more u.drew (.cells #[.int .i64 r0,.int .i64 r1] 76)))
  have R9:=zh (show Pl u9 w0.heap.size p s'∧Box u9 w0.heap.size D (.slice x.aa x.b.ac.length x.ca) (.slice x.ai x.b.ic.length x.ci) (.slice x.ab x.b.bs.length x.cb) (.slice x.al x.b.ls.length x.cl) (.slice x.ats x.b.ts.length x.ct) (.int .i64 x.b.lot) from⟨Ints.Own.kept (zu RA).pl gr9 (fun e=>by have:=BL _ e.symm;omega),(zu RA).bx.kept gr9 (fun e=>by have:=BL _ e.symm;omega)⟩)
  have O9:=zh o9
  have OO:=zh (show u9.ownsRow N 75 2 (.slice x.aa x.b.ac.length x.ca) x.b.ac.length (Pairs.flat x.b.ac)∧u9.ownsRow N 78 3 (.slice x.ab x.b.bs.length x.cb) x.b.bs.length (Triples.flat3 x.b.bs)∧u9.ownsRow N 80 5 (.slice x.al x.b.ls.length x.cl) x.b.ls.length (Tup5.flat5 x.b.ls)∧u9.ownsRow N 82 8 (.slice x.ats x.b.ts.length x.ct) x.b.ts.length (Tup8.flat8 x.b.ts) from⟨World.ownsRow.kept (zu RA).o.oa gr9 (row_ne (zu RA).o.oa (zu RA).o.oi (by decide)),World.ownsRow.kept (zu RA).o.ob gr9 (row_ne (zu RA).o.ob (zu RA).o.oi (by decide)),World.ownsRow.kept (zu RA).o.ol gr9 (row_ne (zu RA).o.ol (zu RA).o.oi (by decide)),World.ownsRow.kept (zu RA).o.ot gr9 (row_ne (zu RA).o.ot (zu RA).o.oi (by decide))⟩)
  have RR:=zh (show u9.heap[B]?=some (.cells #[.pointer (some ⟨D,0,none⟩)] 124 (0,0))∧Below w0.heap.size w0 u9∧N≤u9.heap.size from⟨(gr9.block B (by have:=(zu RA).ltB;exact this) (fun e=>by have:=BL _ e.symm;omega)).trans (zu RA).q,(zu RA).b.grown gr9 (zu RA).b.size (fun j hj=>by have:=BL _ hj;omega),Nat.le_trans (zu RA).n gr9.size⟩)
  have KA:=zh (show Kp W u9 from((zu KX).trans (Kp.drew (Kp.below (one_more u.drew (.cells #[.int .i64 r0,.int .i64 r1] 76))))).trans (Kp.grown gr9 (fun j hj=>by obtain⟨c,hc⟩:=row_typ (zu RA).o.oi j hj;exact⟨_,hc,rfl⟩)))
  have fr9:u9.frozen? ⟨D,1,none⟩=false:=(zu R9).2.free 1
  have bc9:=(zu R9).2.c1
  have SB:=zh ((zu R9).2.set1 (.slice (some ⟨g9,0,none⟩) (x.b.ic.length+1) c9))
  have KC:u9.cell? ⟨B,0,none⟩=some (.pointer (some ⟨D,0,none⟩))∧u9.cell? ⟨W.heap.size+1,0,none⟩=some (.int .i64 r0)∧u9.cell? ⟨W.heap.size+1,1,none⟩=some (.int .i64 r1):=⟨gr9.cell KB.1 (fun e=>by have:=BL _ e.symm;simp only at this;omega),gr9.cell KB.2.1 (fun e=>by exact NE e),gr9.cell KB.2.2 (fun e=>by exact NE e)⟩
  have KD:(u9.setCell ⟨D,1,none⟩ (.slice (some ⟨g9,0,none⟩) (x.b.ic.length+1) c9)).cell? ⟨B,0,none⟩=some (.pointer (some ⟨D,0,none⟩))∧(u9.setCell ⟨D,1,none⟩ (.slice (some ⟨g9,0,none⟩) (x.b.ic.length+1) c9)).cell? ⟨W.heap.size+1,0,none⟩=some (.int .i64 r0)∧(u9.setCell ⟨D,1,none⟩ (.slice (some ⟨g9,0,none⟩) (x.b.ic.length+1) c9)).cell? ⟨W.heap.size+1,1,none⟩=some (.int .i64 r1):=⟨(cell_grown (zu SB).2 0 (g:=B) (by have:=(zu RA).ltB;have:=gr9.size;omega) (fun e=>dq e.symm)).trans KC.1,(cell_grown (zu SB).2 0 (g:=W.heap.size+1) (by have:=gr9.size;simp at this;omega) (by omega)).trans KC.2.1,(cell_grown (zu SB).2 1 (g:=W.heap.size+1) (by have:=gr9.size;simp at this;omega) (by omega)).trans KC.2.2⟩
  clear o9
  refine hK.out _ _ KC (fun hHeld=>?_)
  clear hK K
  try simp only[oC17,Act.put,zA,zB,zC]
  refine tk 8 oC18 (.pointer (some ⟨D,0,none⟩)) rfl (by kernel_rfl) (fun _ _ _ h=>h) (by rfl) (fun w hSw=>?_) hHeld ?_
  ·(try dsimp only at hSw)
   unfold oC18
   go_simp
  try simp only[oC18,Act.put,zA,zB,zC]
  refine tk 9 oC19 (.pointer (some ⟨D,1,none⟩)) rfl (by kernel_rfl) (fun _ _ _ h=>h) (by rfl) (fun w hSw=>?_) hHeld ?_
  ·(try dsimp only at hSw)
   unfold oC19
   go_simp
  try simp only[oC19,Act.put,zA,zB,zC]
  refine wpAnyH_ready (rs:=[10]) (by kernel_rfl) (by simp) ?_
  refine AllReadyH.cons (o:=oC110) rfl (fun K hK=>?_) AllReadyH.nil
  unfold oC110
  go_simp
  refine hK.out _ _ KD (fun hHeld=>?_)
  clear hK K
  try simp only[oC110,Act.put,zA,zB,zC]
  refine wpAnyH_done (by kernel_rfl) ?_ _
  clear K0 KB KC KD bc bcD bcA bc9 fr9 eB e0 e1
  go_wp2
  go_end0
  obtain⟨sb,sg⟩:=zu SB
  obtain⟨h0,h2,h3,h4⟩:=zu OO
  obtain⟨q9,b9,n9⟩:=zu RR
  have ln:(x.b.ic++[r2 [r0,r1]]).length=x.b.ic.length+1:=by simp
  refine .inr ⟨rfl,rfl,(zu KA).trans (Kp.grown sg (fun j hj=>by injection hj with hj;subst hj;obtain⟨c,hc⟩:=row_typ (zu R9).2 _ rfl;exact⟨_,hc,rfl⟩)),(⟨x.aa,x.ca,some ⟨g9,0,none⟩,c9,x.ab,x.cb,x.al,x.cl,x.ats,x.ct,⟨x.b.ac,x.b.ic++[r2 [r0,r1]],x.b.bs,x.b.ls,x.b.ts,x.b.lot⟩⟩:Ix),rfl,⟨Ints.Own.kept (zu R9).1 sg (by simpa using pd),?_,⟨row_kept h0 sg d1,?_,row_kept h2 sg d1,row_kept h3 sg d1,row_kept h4 sg d1⟩,(sg.block B (by have:=Array.getElem?_eq_some_iff.1 q9;exact this.1) (fun e=>dq (by injection e with e;exact e.symm))).trans q9,b9.grown sg b9.size (fun j hj=>by injection hj with hj;omega),Nat.le_trans n9 sg.size⟩⟩
  ·show Box _ _ _ (.slice x.aa x.b.ac.length x.ca) (.slice (some ⟨g9,0,none⟩) (x.b.ic++[r2 [r0,r1]]).length c9) (.slice x.ab x.b.bs.length x.cb) (.slice x.al x.b.ls.length x.cl) (.slice x.ats x.b.ts.length x.ct) (.int .i64 x.b.lot)
   rw[ln]
   exact sb
  ·show World.ownsRow _ _ _ _ _ _ _
   have o:=row_kept (zu O9) sg d1
   simp only[ln]
   rw[show Pairs.flat (x.b.ic++[r2 [r0,r1]])=Pairs.flat x.b.ic++[.int .i64 r0,.int .i64 r1] from flat_p _ _ _]
   exact o
 ·unfold oC16
  go_simp
  refine hK.out _ _ KB (fun hHeld=>?_)
  clear hK K
  try simp only[oC16,Act.put,zA,zB,zC]
  refine wpAnyH_ready (rs:=[4]) (by kernel_rfl) (by simp) ?_
  refine AllReadyH.cons (o:=oC14) rfl (fun K hK=>?_) AllReadyH.nil
  unfold oC14
  go_simp
  refine hK.out _ _ KB (fun hHeld=>?_)
  clear hK K
  try simp only[oC14,Act.put,zA,zB,zC]
  refine wpAnyH_ready (rs:=[7]) (by kernel_rfl) (by simp) ?_
  refine AllReadyH.cons (o:=oC17) rfl (fun K hK=>?_) AllReadyH.nil
  refine step_app (u.drew.alloc (.cells #[.int .i64 r0,.int .i64 r1] 76)) (by rfl) _ _ 27 76 (by rfl) (.agg #[.int .i64 0,.int .i64 0]) 2 16 Tryz.underlying27 info_ic rfl (by decide) (by decide) N (.slice x.ai x.b.ic.length x.ci) x.b.ic.length (Pairs.flat x.b.ic) u.drew.heap.size [.int .i64 r0,.int .i64 r1] (by rfl) (by rfl) (row_step (W:=u.drew) ro (one_more u.drew (.cells #[.int .i64 r0,.int .i64 r1] 76))) rfl (litm u.drew _ _ _ (by rfl)) (by simp[Value.oneCell']) (by omega) (Nat.le_trans (show N≤u.drew.heap.size from rn) (by simp)) ?_
  intro g9 c9 u9 o9 gr9
  have BL:∀j,(.slice x.ai x.b.ic.length x.ci:Value).ownBlock=some j→N≤j:=fun j hj=>(World.ownsRow.lt ro j hj).1
  have BM:∀j,(.slice x.ai x.b.ic.length x.ci:Value).ownBlock=some j→j<u.heap.size:=fun j hj=>(World.ownsRow.lt ro j hj).2
  have NE:=NW
  have RA:=zh ((show Rs w0 u.drew p D B N s' x from rs_drew (zu RX)).step (one_more u.drew (.cells #[.int .i64 r0,.int .i64 r1] 76)))
  have R9:=zh (show Pl u9 w0.heap.size p s'∧Box u9 w0.heap.size D (.slice x.aa x.b.ac.length x.ca) (.slice x.ai x.b.ic.length x.ci) (.slice x.ab x.b.bs.length x.cb) (.slice x.al x.b.ls.length x.cl) (.slice x.ats x.b.ts.length x.ct) (.int .i64 x.b.lot) from⟨Ints.Own.kept (zu RA).pl gr9 (fun e=>by have:=BL _ e.symm;omega),(zu RA).bx.kept gr9 (fun e=>by have:=BL _ e.symm;omega)⟩)
  have O9:=zh o9
  have OO:=zh (show u9.ownsRow N 75 2 (.slice x.aa x.b.ac.length x.ca) x.b.ac.length (Pairs.flat x.b.ac)∧u9.ownsRow N 78 3 (.slice x.ab x.b.bs.length x.cb) x.b.bs.length (Triples.flat3 x.b.bs)∧u9.ownsRow N 80 5 (.slice x.al x.b.ls.length x.cl) x.b.ls.length (Tup5.flat5 x.b.ls)∧u9.ownsRow N 82 8 (.slice x.ats x.b.ts.length x.ct) x.b.ts.length (Tup8.flat8 x.b.ts) from⟨World.ownsRow.kept (zu RA).o.oa gr9 (row_ne (zu RA).o.oa (zu RA).o.oi (by decide)),World.ownsRow.kept (zu RA).o.ob gr9 (row_ne (zu RA).o.ob (zu RA).o.oi (by decide)),World.ownsRow.kept (zu RA).o.ol gr9 (row_ne (zu RA).o.ol (zu RA).o.oi (by decide)),World.ownsRow.kept (zu RA).o.ot gr9 (row_ne (zu RA).o.ot (zu RA).o.oi (by decide))⟩)
  have RR:=zh (show u9.heap[B]?=some (.cells #[.pointer (some ⟨D,0,none⟩)] 124 (0,0))∧Below w0.heap.size w0 u9∧N≤u9.heap.size from⟨(gr9.block B (by have:=(zu RA).ltB;exact this) (fun e=>by have:=BL _ e.symm;omega)).trans (zu RA).q,(zu RA).b.grown gr9 (zu RA).b.size (fun j hj=>by have:=BL _ hj;omega),Nat.le_trans (zu RA).n gr9.size⟩)
  have KA:=zh (show Kp W u9 from((zu KX).trans (Kp.drew (Kp.below (one_more u.drew (.cells #[.int .i64 r0,.int .i64 r1] 76))))).trans (Kp.grown gr9 (fun j hj=>by obtain⟨c,hc⟩:=row_typ (zu RA).o.oi j hj;exact⟨_,hc,rfl⟩)))
  have fr9:u9.frozen? ⟨D,1,none⟩=false:=(zu R9).2.free 1
  have bc9:=(zu R9).2.c1
  have SB:=zh ((zu R9).2.set1 (.slice (some ⟨g9,0,none⟩) (x.b.ic.length+1) c9))
  have KC:u9.cell? ⟨B,0,none⟩=some (.pointer (some ⟨D,0,none⟩))∧u9.cell? ⟨W.heap.size+1,0,none⟩=some (.int .i64 r0)∧u9.cell? ⟨W.heap.size+1,1,none⟩=some (.int .i64 r1):=⟨gr9.cell KB.1 (fun e=>by have:=BL _ e.symm;simp only at this;omega),gr9.cell KB.2.1 (fun e=>by exact NE e),gr9.cell KB.2.2 (fun e=>by exact NE e)⟩
  have KD:(u9.setCell ⟨D,1,none⟩ (.slice (some ⟨g9,0,none⟩) (x.b.ic.length+1) c9)).cell? ⟨B,0,none⟩=some (.pointer (some ⟨D,0,none⟩))∧(u9.setCell ⟨D,1,none⟩ (.slice (some ⟨g9,0,none⟩) (x.b.ic.length+1) c9)).cell? ⟨W.heap.size+1,0,none⟩=some (.int .i64 r0)∧(u9.setCell ⟨D,1,none⟩ (.slice (some ⟨g9,0,none⟩) (x.b.ic.length+1) c9)).cell? ⟨W.heap.size+1,1,none⟩=some (.int .i64 r1):=⟨(cell_grown (zu SB).2 0 (g:=B) (by have:=(zu RA).ltB;have:=gr9.size;omega) (fun e=>dq e.symm)).trans KC.1,(cell_grown (zu SB).2 0 (g:=W.heap.size+1) (by have:=gr9.size;simp at this;omega) (by omega)).trans KC.2.1,(cell_grown (zu SB).2 1 (g:=W.heap.size+1) (by have:=gr9.size;simp at this;omega) (by omega)).trans KC.2.2⟩
  clear o9
  refine hK.out _ _ KC (fun hHeld=>?_)
  clear hK K
  try simp only[oC17,Act.put,zA,zB,zC]
  refine tk 8 oC18 (.pointer (some ⟨D,0,none⟩)) rfl (by kernel_rfl) (fun _ _ _ h=>h) (by rfl) (fun w hSw=>?_) hHeld ?_
  ·(try dsimp only at hSw)
   unfold oC18
   go_simp
  try simp only[oC18,Act.put,zA,zB,zC]
  refine tk 9 oC19 (.pointer (some ⟨D,1,none⟩)) rfl (by kernel_rfl) (fun _ _ _ h=>h) (by rfl) (fun w hSw=>?_) hHeld ?_
  ·(try dsimp only at hSw)
   unfold oC19
   go_simp
  try simp only[oC19,Act.put,zA,zB,zC]
  refine wpAnyH_ready (rs:=[10]) (by kernel_rfl) (by simp) ?_
  refine AllReadyH.cons (o:=oC110) rfl (fun K hK=>?_) AllReadyH.nil
  unfold oC110
  go_simp
  refine hK.out _ _ KD (fun hHeld=>?_)
  clear hK K
  try simp only[oC110,Act.put,zA,zB,zC]
  refine wpAnyH_done (by kernel_rfl) ?_ _
  clear K0 KB KC KD bc bcD bcA bc9 fr9 eB e0 e1
  go_wp2
  go_end0
  obtain⟨sb,sg⟩:=zu SB
  obtain⟨h0,h2,h3,h4⟩:=zu OO
  obtain⟨q9,b9,n9⟩:=zu RR
  have ln:(x.b.ic++[r2 [r0,r1]]).length=x.b.ic.length+1:=by simp
  refine .inr ⟨rfl,rfl,(zu KA).trans (Kp.grown sg (fun j hj=>by injection hj with hj;subst hj;obtain⟨c,hc⟩:=row_typ (zu R9).2 _ rfl;exact⟨_,hc,rfl⟩)),(⟨x.aa,x.ca,some ⟨g9,0,none⟩,c9,x.ab,x.cb,x.al,x.cl,x.ats,x.ct,⟨x.b.ac,x.b.ic++[r2 [r0,r1]],x.b.bs,x.b.ls,x.b.ts,x.b.lot⟩⟩:Ix),rfl,⟨Ints.Own.kept (zu R9).1 sg (by simpa using pd),?_,⟨row_kept h0 sg d1,?_,row_kept h2 sg d1,row_kept h3 sg d1,row_kept h4 sg d1⟩,(sg.block B (by have:=Array.getElem?_eq_some_iff.1 q9;exact this.1) (fun e=>dq (by injection e with e;exact e.symm))).trans q9,b9.grown sg b9.size (fun j hj=>by injection hj with hj;omega),Nat.le_trans n9 sg.size⟩⟩
  ·show Box _ _ _ (.slice x.aa x.b.ac.length x.ca) (.slice (some ⟨g9,0,none⟩) (x.b.ic++[r2 [r0,r1]]).length c9) (.slice x.ab x.b.bs.length x.cb) (.slice x.al x.b.ls.length x.cl) (.slice x.ats x.b.ts.length x.ct) (.int .i64 x.b.lot)
   rw[ln]
   exact sb
  ·show World.ownsRow _ _ _ _ _ _ _
   have o:=row_kept (zu O9) sg d1
   simp only[ln]
   rw[show Pairs.flat (x.b.ic++[r2 [r0,r1]])=Pairs.flat x.b.ic++[.int .i64 r0,.int .i64 r1] from flat_p _ _ _]
   exact o
theorem cl2(w0 W:World)(gl cl p D B N:Nat)(xs:List Int)(et:TypeId)(ev:Value)(s:Int)(x:Ix)(G:Pg oz w0 gl cl p D B N xs et ev)(R:Rs w0 W p D B N s x)(hs:s≤9223372036854775807)(hl:x.b.bs.length≤1000):
  Calls Tryz.prog 99 #[.agg #[.slice (some ⟨gl,oz,none⟩) xs.length cl,.pointer (some ⟨p,0,none⟩)],.pointer (some ⟨B,0,none⟩)] W (ClS 2 (gets xs 3 s []) w0 W p D B N x):=by
 obtain⟨l0,l1,g,a,e,z,p0,p1,d0,d1,q0,q1,pd,pq,dq⟩:=G
 have nn:=R.n
 have BU:=zh (show Below W.heap.size W (((W.alloc (.cells #[.slice (some ⟨gl,oz,none⟩) xs.length cl,.pointer (some ⟨p,0,none⟩)] 92)).alloc (.cells #[.int .i64 0,.int .i64 0,.int .i64 0] 78)).alloc (.cells #[.pointer (some ⟨W.heap.size+1,0,none⟩),.pointer (some ⟨W.heap.size+1,1,none⟩),.pointer (some ⟨W.heap.size+1,2,none⟩)] 90)) from(((Below.refl _ _).alloc (Nat.le_refl _) _).alloc (by simp) _).alloc (by simp;omega) _)
 have RU:=zh (R.step (zu BU))
 have TU:=zh (show Tg (((W.alloc (.cells #[.slice (some ⟨gl,oz,none⟩) xs.length cl,.pointer (some ⟨p,0,none⟩)] 92)).alloc (.cells #[.int .i64 0,.int .i64 0,.int .i64 0] 78)).alloc (.cells #[.pointer (some ⟨W.heap.size+1,0,none⟩),.pointer (some ⟨W.heap.size+1,1,none⟩),.pointer (some ⟨W.heap.size+1,2,none⟩)] 90)) w0.heap.size 78 3 (W.heap.size+1) [.int .i64 0,.int .i64 0,.int .i64 0] from by
  have:=World.ownsRow.alloc (World.ownsRow_lit (base:=w0.heap.size) (size:=3) (e:=78) (W.alloc (.cells #[.slice (some ⟨gl,oz,none⟩) xs.length cl,.pointer (some ⟨p,0,none⟩)] 92)) #[.int .i64 0,.int .i64 0,.int .i64 0] 1 (by have:=R.b.size;simp;omega) (by decide) rfl) (.cells #[.pointer (some ⟨W.heap.size+1,0,none⟩),.pointer (some ⟨W.heap.size+1,1,none⟩),.pointer (some ⟨W.heap.size+1,2,none⟩)] 90)
  simpa[Tg] using this)
 have PU:=zh (show Ptr (((W.alloc (.cells #[.slice (some ⟨gl,oz,none⟩) xs.length cl,.pointer (some ⟨p,0,none⟩)] 92)).alloc (.cells #[.int .i64 0,.int .i64 0,.int .i64 0] 78)).alloc (.cells #[.pointer (some ⟨W.heap.size+1,0,none⟩),.pointer (some ⟨W.heap.size+1,1,none⟩),.pointer (some ⟨W.heap.size+1,2,none⟩)] 90)) (W.heap.size+2) (W.heap.size+1) 3 from fun i hi=>by
  have:i=0∨i=1∨i=2:=by omega
  have q:=litm ((W.alloc (.cells #[.slice (some ⟨gl,oz,none⟩) xs.length cl,.pointer (some ⟨p,0,none⟩)] 92)).alloc (.cells #[.int .i64 0,.int .i64 0,.int .i64 0] 78)) [.pointer (some ⟨W.heap.size+1,0,none⟩),.pointer (some ⟨W.heap.size+1,1,none⟩),.pointer (some ⟨W.heap.size+1,2,none⟩)] 90 #[.pointer (some ⟨W.heap.size+1,0,none⟩),.pointer (some ⟨W.heap.size+1,1,none⟩),.pointer (some ⟨W.heap.size+1,2,none⟩)] rfl i
  rw[show((W.alloc (.cells #[.slice (some ⟨gl,oz,none⟩) xs.length cl,.pointer (some ⟨p,0,none⟩)] 92)).alloc (.cells #[.int .i64 0,.int .i64 0,.int .i64 0] 78)).heap.size=W.heap.size+2 by simp] at q
  rcases this with rfl|rfl|rfl<;>exact q _ rfl)
 have us:((((W.alloc (.cells #[.slice (some ⟨gl,oz,none⟩) xs.length cl,.pointer (some ⟨p,0,none⟩)] 92)).alloc (.cells #[.int .i64 0,.int .i64 0,.int .i64 0] 78)).alloc (.cells #[.pointer (some ⟨W.heap.size+1,0,none⟩),.pointer (some ⟨W.heap.size+1,1,none⟩),.pointer (some ⟨W.heap.size+1,2,none⟩)] 90))).heap.size=W.heap.size+3:=by simp
 have MU:=zh (iMust (((W.alloc (.cells #[.slice (some ⟨gl,oz,none⟩) xs.length cl,.pointer (some ⟨p,0,none⟩)] 92)).alloc (.cells #[.int .i64 0,.int .i64 0,.int .i64 0] 78)).alloc (.cells #[.pointer (some ⟨W.heap.size+1,0,none⟩),.pointer (some ⟨W.heap.size+1,1,none⟩),.pointer (some ⟨W.heap.size+1,2,none⟩)] 90)) gl cl p w0.heap.size 78 3 (W.heap.size+1) (W.heap.size+2) 3 3 xs s [.int .i64 0,.int .i64 0,.int .i64 0] ev et hs l0 l1 g (a.below (zu RU).b g) (zu RU).pl (zu TU) (fun i hi=>by
  have:i=0∨i=1∨i=2:=by omega
  rcases this with rfl|rfl|rfl<;>exact⟨0,rfl⟩) (zu PU) (by omega) (by omega) (by omega) (by omega) (by omega) (((zu RU).b.cell (p:=⟨0,0,none⟩) z).trans e) z)
 have GL:=zh (gets_len xs 3 s [])
 have GA:=zh (gets_all xs 3 s [] (by simp))
 have RW:=zh R
 clear a e R TU PU us
 generalize gets xs 3 s []=r at *
 obtain⟨l,s',ok⟩:=r
 go_enter Tryz.func99,Tryz.ntmps99
 go_wp2_with fail
 refine(zu MU).mono ?_
 rintro e u (⟨h1,⟨eu,ee,rfl⟩,h3⟩|⟨h1,rfl,h3,h4,h5⟩)
 ·have b1:=(zu BU)
  have g3:=h3.to (B:=w0.heap.size) (by have:=(zu RW).b.size;have:=b1.size;omega) p0 (by have:=(zu RW).b.size;omega)
  exact⟨rfl,.inl ⟨h1,⟨eu,ee,rfl⟩,(zu RU).b.trans g3⟩⟩
 simp only at h1
 subst h1
 have ll:=(zu GL) rfl
 obtain⟨r0,r1,r2,rfl⟩:=list3 (show l.length=3 from by simpa using ll)
 have GW:=zh (show W.grownBy u (some p) from Gr2.grown (((Gr2.refl W p (W.heap.size+1)).step (zu BU)).trans h3) (by omega))
 have RV:=zh ((zu RW).moved (zu GW) p0 p1 pd pq h4)
 have TV:=zh (show Tg u w0.heap.size 78 3 (W.heap.size+1) [.int .i64 r0,.int .i64 r1,.int .i64 r2] from h5)
 have FA:=zh ((zu GA) rfl)
 have KV:=zh (Kp.grown (zu GW) (fun j hj=>by injection hj with hj;subst hj;exact(zu RW).typP))
 clear ll h3 h4 h5 GL GA MU RU BU GW
 have dl:=(zu TV).lt
 have fm:=(zu FA) r2 (by simp)
 have am1:wrap64 (r2-1000000000000000)=r2-1000000000000000:=by rw[wrap64];unfold Fm at fm;omega
 have am2:IntKind.i64.wrap (r2-1000000000000000)=r2-1000000000000000:=by rw[IntKind.wrap_i64];unfold Fm at fm;omega
 clear fm
 have y2:u.cell? ⟨W.heap.size+1,2,none⟩=some (.int .i64 r2):=(zu TV).at rfl
 have yf:u.frozen? ⟨W.heap.size+1,2,none⟩=false:=(zu TV).free 2
 obtain⟨tv,gv⟩:=(zu TV).set 2 (.int .i64 (r2-1000000000000000))
 have TV2:=zh (show Tg (u.setCell ⟨W.heap.size+1,2,none⟩ (.int .i64 (r2-1000000000000000))) w0.heap.size 78 3 (W.heap.size+1) [.int .i64 r0,.int .i64 r1,.int .i64 (r2-1000000000000000)] from tv)
 have BV:=zh (show Rs w0 (u.setCell ⟨W.heap.size+1,2,none⟩ (.int .i64 (r2-1000000000000000))) p D B N s' x∧Kp W (u.setCell ⟨W.heap.size+1,2,none⟩ (.int .i64 (r2-1000000000000000))) from by
  have R:=zu RV
  have hw:W.heap.size≤W.heap.size+1:=by omega
  have ro:=(zu RW).o
  refine⟨⟨Ints.Own.kept R.pl gv (by simp;omega),R.bx.kept gv (fun e=>by injection e with e;omega),⟨?_,?_,?_,?_,?_⟩,(gv.block B R.ltB (fun e=>by injection e with e;omega)).trans R.q,R.b.grown gv R.b.size (fun j hj=>by injection hj with hj;omega),Nat.le_trans R.n gv.size⟩,(zu KV).trans (Kp.grown gv (fun j hj=>by injection hj with hj;subst hj;obtain⟨c,hc⟩:=row_typ (zu TV) _ rfl;exact⟨_,hc,rfl⟩))⟩
  all_goals first
   |exact World.ownsRow.kept R.o.oa gv (row_out ro.oa hw)
   |exact World.ownsRow.kept R.o.oi gv (row_out ro.oi hw)
   |exact World.ownsRow.kept R.o.ob gv (row_out ro.ob hw)
   |exact World.ownsRow.kept R.o.ol gv (row_out ro.ol hw)
   |exact World.ownsRow.kept R.o.ot gv (row_out ro.ot hw))
 clear tv
 have gvs:=gv.size
 clear gv
 go_wp2_with fail
 clear y2 yf
 generalize u.setCell ⟨W.heap.size+1,2,none⟩ (.int .i64 (r2-1000000000000000))=v at *
 have RX:=zh (zu BV).1
 have KX:=zh (zu BV).2
 have TX:=TV2
 clear BV TV2 TV RV KV gvs
 have dl:=(zu TX).lt
 have rl:=(zu RX).ltB
 have rn:=(zu RX).n
 have dD:=(zu RX).bx.lt.2
 have ro:=(zu RX).o.ob
 have e0:v.cell? ⟨W.heap.size+1,0,none⟩=some (.int .i64 r0):=(zu TX).at rfl
 have e1:v.cell? ⟨W.heap.size+1,1,none⟩=some (.int .i64 r1):=(zu TX).at rfl
 have e2:v.cell? ⟨W.heap.size+1,2,none⟩=some (.int .i64 (r2-1000000000000000)):=(zu TX).at rfl
 have eB:=(zu RX).cellB
 have bc:=(zu RX).bx.c2
 have NW:some (W.heap.size+1)≠(.slice x.ab x.b.bs.length x.cb:Value).ownBlock:=fun e=>by
  have:=(World.ownsRow.lt (zu RW).o.ob _ e.symm).2
  omega
 have K0:v.cell? ⟨B,0,none⟩=some (.pointer (some ⟨D,0,none⟩))∧v.cell? ⟨W.heap.size+1,0,none⟩=some (.int .i64 r0)∧v.cell? ⟨W.heap.size+1,1,none⟩=some (.int .i64 r1)∧v.cell? ⟨W.heap.size+1,2,none⟩=some (.int .i64 (r2-1000000000000000)):=⟨eB,e0,e1,e2⟩
 have KB:(v.drew.alloc (.cells #[.int .i64 r0,.int .i64 r1,.int .i64 (r2-1000000000000000)] 78)).cell? ⟨B,0,none⟩=some (.pointer (some ⟨D,0,none⟩))∧(v.drew.alloc (.cells #[.int .i64 r0,.int .i64 r1,.int .i64 (r2-1000000000000000)] 78)).cell? ⟨W.heap.size+1,0,none⟩=some (.int .i64 r0)∧(v.drew.alloc (.cells #[.int .i64 r0,.int .i64 r1,.int .i64 (r2-1000000000000000)] 78)).cell? ⟨W.heap.size+1,1,none⟩=some (.int .i64 r1)∧(v.drew.alloc (.cells #[.int .i64 r0,.int .i64 r1,.int .i64 (r2-1000000000000000)] 78)).cell? ⟨W.heap.size+1,2,none⟩=some (.int .i64 (r2-1000000000000000)):=⟨((one_more v.drew (.cells #[.int .i64 r0,.int .i64 r1,.int .i64 (r2-1000000000000000)] 78)).cell (p:=⟨B,0,none⟩) rl).trans eB,((one_more v.drew (.cells #[.int .i64 r0,.int .i64 r1,.int .i64 (r2-1000000000000000)] 78)).cell (p:=⟨W.heap.size+1,0,none⟩) dl.2).trans e0,((one_more v.drew (.cells #[.int .i64 r0,.int .i64 r1,.int .i64 (r2-1000000000000000)] 78)).cell (p:=⟨W.heap.size+1,1,none⟩) dl.2).trans e1,((one_more v.drew (.cells #[.int .i64 r0,.int .i64 r1,.int .i64 (r2-1000000000000000)] 78)).cell (p:=⟨W.heap.size+1,2,none⟩) dl.2).trans e2⟩
 have bcD:v.drew.cell? ⟨D,2,none⟩=some (.slice x.ab x.b.bs.length x.cb):=bc
 have bcA:(v.alloc (.cells #[.int .i64 r0,.int .i64 r1,.int .i64 (r2-1000000000000000)] 78)).cell? ⟨D,2,none⟩=some (.slice x.ab x.b.bs.length x.cb):=((one_more v.drew (.cells #[.int .i64 r0,.int .i64 r1,.int .i64 (r2-1000000000000000)] 78)).cell (p:=⟨D,2,none⟩) dD).trans bc
 refine wp_region_held_drew (S:=(fun w'=>w'.cell? ⟨B,0,none⟩=some (.pointer (some ⟨D,0,none⟩))∧w'.cell? ⟨W.heap.size+1,0,none⟩=some (.int .i64 r0)∧w'.cell? ⟨W.heap.size+1,1,none⟩=some (.int .i64 r1)∧w'.cell? ⟨W.heap.size+1,2,none⟩=some (.int .i64 (r2-1000000000000000)))) (by kernel_rfl) K0 (fun hHeld=>?_)
 refine tk 0 oC20 (.pointer (some ⟨D,0,none⟩)) rfl (by kernel_rfl) (fun _ _ _ h=>h) (by rfl) (fun w hSw=>?_) hHeld ?_
 ·(try dsimp only at hSw)
  unfold oC20
  go_simp
 try simp only[oC20,Act.put,zA,zB,zC]
 refine tk 1 oC21 (.pointer (some ⟨D,0,none⟩)) rfl (by kernel_rfl) (fun _ _ _ h=>h) (by rfl) (fun w hSw=>?_) hHeld ?_
 ·(try dsimp only at hSw)
  unfold oC21
  go_simp
 try simp only[oC21,Act.put,zA,zB,zC]
 refine tk 2 oC22 (.pointer (some ⟨D,0,none⟩)) rfl (by kernel_rfl) (fun _ _ _ h=>h) (by rfl) (fun w hSw=>?_) hHeld ?_
 ·(try dsimp only at hSw)
  unfold oC22
  go_simp
 try simp only[oC22,Act.put,zA,zB,zC]
 refine tk 3 oC23 (.pointer (some ⟨D,2,none⟩)) rfl (by kernel_rfl) (fun _ _ _ h=>h) (by rfl) (fun w hSw=>?_) hHeld ?_
 ·(try dsimp only at hSw)
  unfold oC23
  go_simp
 try simp only[oC23,Act.put,zA,zB,zC]
 refine tk 5 oC25 (.agg #[.int .i64 r0,.int .i64 r1,.int .i64 (r2-1000000000000000)]) rfl (by kernel_rfl) (fun _ _ _ h=>h) (by rfl) (fun w hSw=>?_) hHeld ?_
 ·(try dsimp only at hSw)
  unfold oC25
  go_simp
 try simp only[oC25,Act.put,zA,zB,zC]
 refine wpAnyH_ready (rs:=[4,6]) (by kernel_rfl) (by simp) ?_
 refine AllReadyH.cons (o:=oC24) rfl (fun K hK=>?_) (AllReadyH.cons (o:=oC26) rfl (fun K hK=>?_) AllReadyH.nil)
 ·unfold oC24
  go_simp
  refine hK.out _ _ K0 (fun hHeld=>?_)
  clear hK K
  try simp only[oC24,Act.put,zA,zB,zC]
  refine wpAnyH_ready (rs:=[6]) (by kernel_rfl) (by simp) ?_
  refine AllReadyH.cons (o:=oC26) rfl (fun K hK=>?_) AllReadyH.nil
  unfold oC26
  go_simp
  refine hK.out _ _ KB (fun hHeld=>?_)
  clear hK K
  try simp only[oC26,Act.put,zA,zB,zC]
  refine wpAnyH_ready (rs:=[7]) (by kernel_rfl) (by simp) ?_
  refine AllReadyH.cons (o:=oC27) rfl (fun K hK=>?_) AllReadyH.nil
  refine step_app (v.drew.alloc (.cells #[.int .i64 r0,.int .i64 r1,.int .i64 (r2-1000000000000000)] 78)) (by rfl) _ _ 28 78 (by rfl) (.agg #[.int .i64 0,.int .i64 0,.int .i64 0]) 3 24 Tryz.underlying28 info_bs rfl (by decide) (by decide) N (.slice x.ab x.b.bs.length x.cb) x.b.bs.length (Triples.flat3 x.b.bs) v.drew.heap.size [.int .i64 r0,.int .i64 r1,.int .i64 (r2-1000000000000000)] (by rfl) (by rfl) (row_step (W:=v.drew) ro (one_more v.drew (.cells #[.int .i64 r0,.int .i64 r1,.int .i64 (r2-1000000000000000)] 78))) rfl (litm v.drew _ _ _ (by rfl)) (by simp[Value.oneCell']) (by omega) (Nat.le_trans (show N≤v.drew.heap.size from rn) (by simp)) ?_
  intro g9 c9 u9 o9 gr9
  have BL:∀j,(.slice x.ab x.b.bs.length x.cb:Value).ownBlock=some j→N≤j:=fun j hj=>(World.ownsRow.lt ro j hj).1
  have BM:∀j,(.slice x.ab x.b.bs.length x.cb:Value).ownBlock=some j→j<v.heap.size:=fun j hj=>(World.ownsRow.lt ro j hj).2
  have NE:=NW
  have RA:=zh ((show Rs w0 v.drew p D B N s' x from rs_drew (zu RX)).step (one_more v.drew (.cells #[.int .i64 r0,.int .i64 r1,.int .i64 (r2-1000000000000000)] 78)))
  have R9:=zh (show Pl u9 w0.heap.size p s'∧Box u9 w0.heap.size D (.slice x.aa x.b.ac.length x.ca) (.slice x.ai x.b.ic.length x.ci) (.slice x.ab x.b.bs.length x.cb) (.slice x.al x.b.ls.length x.cl) (.slice x.ats x.b.ts.length x.ct) (.int .i64 x.b.lot) from⟨Ints.Own.kept (zu RA).pl gr9 (fun e=>by have:=BL _ e.symm;omega),(zu RA).bx.kept gr9 (fun e=>by have:=BL _ e.symm;omega)⟩)
  have O9:=zh o9
  have OO:=zh (show u9.ownsRow N 75 2 (.slice x.aa x.b.ac.length x.ca) x.b.ac.length (Pairs.flat x.b.ac)∧u9.ownsRow N 76 2 (.slice x.ai x.b.ic.length x.ci) x.b.ic.length (Pairs.flat x.b.ic)∧u9.ownsRow N 80 5 (.slice x.al x.b.ls.length x.cl) x.b.ls.length (Tup5.flat5 x.b.ls)∧u9.ownsRow N 82 8 (.slice x.ats x.b.ts.length x.ct) x.b.ts.length (Tup8.flat8 x.b.ts) from⟨World.ownsRow.kept (zu RA).o.oa gr9 (row_ne (zu RA).o.oa (zu RA).o.ob (by decide)),World.ownsRow.kept (zu RA).o.oi gr9 (row_ne (zu RA).o.oi (zu RA).o.ob (by decide)),World.ownsRow.kept (zu RA).o.ol gr9 (row_ne (zu RA).o.ol (zu RA).o.ob (by decide)),World.ownsRow.kept (zu RA).o.ot gr9 (row_ne (zu RA).o.ot (zu RA).o.ob (by decide))⟩)
  have RR:=zh (show u9.heap[B]?=some (.cells #[.pointer (some ⟨D,0,none⟩)] 124 (0,0))∧Below w0.heap.size w0 u9∧N≤u9.heap.size from⟨(gr9.block B (by have:=(zu RA).ltB;exact this) (fun e=>by have:=BL _ e.symm;omega)).trans (zu RA).q,(zu RA).b.grown gr9 (zu RA).b.size (fun j hj=>by have:=BL _ hj;omega),Nat.le_trans (zu RA).n gr9.size⟩)
  have KA:=zh (show Kp W u9 from((zu KX).trans (Kp.drew (Kp.below (one_more v.drew (.cells #[.int .i64 r0,.int .i64 r1,.int .i64 (r2-1000000000000000)] 78))))).trans (Kp.grown gr9 (fun j hj=>by obtain⟨c,hc⟩:=row_typ (zu RA).o.ob j hj;exact⟨_,hc,rfl⟩)))
  have fr9:u9.frozen? ⟨D,2,none⟩=false:=(zu R9).2.free 2
  have bc9:=(zu R9).2.c2
  have SB:=zh ((zu R9).2.set2 (.slice (some ⟨g9,0,none⟩) (x.b.bs.length+1) c9))
  have KC:u9.cell? ⟨B,0,none⟩=some (.pointer (some ⟨D,0,none⟩))∧u9.cell? ⟨W.heap.size+1,0,none⟩=some (.int .i64 r0)∧u9.cell? ⟨W.heap.size+1,1,none⟩=some (.int .i64 r1)∧u9.cell? ⟨W.heap.size+1,2,none⟩=some (.int .i64 (r2-1000000000000000)):=⟨gr9.cell KB.1 (fun e=>by have:=BL _ e.symm;simp only at this;omega),gr9.cell KB.2.1 (fun e=>by exact NE e),gr9.cell KB.2.2.1 (fun e=>by exact NE e),gr9.cell KB.2.2.2 (fun e=>by exact NE e)⟩
  have KD:(u9.setCell ⟨D,2,none⟩ (.slice (some ⟨g9,0,none⟩) (x.b.bs.length+1) c9)).cell? ⟨B,0,none⟩=some (.pointer (some ⟨D,0,none⟩))∧(u9.setCell ⟨D,2,none⟩ (.slice (some ⟨g9,0,none⟩) (x.b.bs.length+1) c9)).cell? ⟨W.heap.size+1,0,none⟩=some (.int .i64 r0)∧(u9.setCell ⟨D,2,none⟩ (.slice (some ⟨g9,0,none⟩) (x.b.bs.length+1) c9)).cell? ⟨W.heap.size+1,1,none⟩=some (.int .i64 r1)∧(u9.setCell ⟨D,2,none⟩ (.slice (some ⟨g9,0,none⟩) (x.b.bs.length+1) c9)).cell? ⟨W.heap.size+1,2,none⟩=some (.int .i64 (r2-1000000000000000)):=⟨(cell_grown (zu SB).2 0 (g:=B) (by have:=(zu RA).ltB;have:=gr9.size;omega) (fun e=>dq e.symm)).trans KC.1,(cell_grown (zu SB).2 0 (g:=W.heap.size+1) (by have:=gr9.size;simp at this;omega) (by omega)).trans KC.2.1,(cell_grown (zu SB).2 1 (g:=W.heap.size+1) (by have:=gr9.size;simp at this;omega) (by omega)).trans KC.2.2.1,(cell_grown (zu SB).2 2 (g:=W.heap.size+1) (by have:=gr9.size;simp at this;omega) (by omega)).trans KC.2.2.2⟩
  clear o9
  refine hK.out _ _ KC (fun hHeld=>?_)
  clear hK K
  try simp only[oC27,Act.put,zA,zB,zC]
  refine tk 8 oC28 (.pointer (some ⟨D,0,none⟩)) rfl (by kernel_rfl) (fun _ _ _ h=>h) (by rfl) (fun w hSw=>?_) hHeld ?_
  ·(try dsimp only at hSw)
   unfold oC28
   go_simp
  try simp only[oC28,Act.put,zA,zB,zC]
  refine tk 9 oC29 (.pointer (some ⟨D,2,none⟩)) rfl (by kernel_rfl) (fun _ _ _ h=>h) (by rfl) (fun w hSw=>?_) hHeld ?_
  ·(try dsimp only at hSw)
   unfold oC29
   go_simp
  try simp only[oC29,Act.put,zA,zB,zC]
  refine wpAnyH_ready (rs:=[10]) (by kernel_rfl) (by simp) ?_
  refine AllReadyH.cons (o:=oC210) rfl (fun K hK=>?_) AllReadyH.nil
  unfold oC210
  go_simp
  refine hK.out _ _ KD (fun hHeld=>?_)
  clear hK K
  try simp only[oC210,Act.put,zA,zB,zC]
  refine wpAnyH_done (by kernel_rfl) ?_ _
  clear K0 KB KC KD bc bcD bcA bc9 fr9 eB e0 e1 e2
  go_wp2
  go_end0
  obtain⟨sb,sg⟩:=zu SB
  obtain⟨h0,h1,h3,h4⟩:=zu OO
  obtain⟨q9,b9,n9⟩:=zu RR
  have ln:(x.b.bs++[r3 [r0,r1,r2]]).length=x.b.bs.length+1:=by simp
  refine .inr ⟨rfl,rfl,(zu KA).trans (Kp.grown sg (fun j hj=>by injection hj with hj;subst hj;obtain⟨c,hc⟩:=row_typ (zu R9).2 _ rfl;exact⟨_,hc,rfl⟩)),(⟨x.aa,x.ca,x.ai,x.ci,some ⟨g9,0,none⟩,c9,x.al,x.cl,x.ats,x.ct,⟨x.b.ac,x.b.ic,x.b.bs++[r3 [r0,r1,r2]],x.b.ls,x.b.ts,x.b.lot⟩⟩:Ix),rfl,⟨Ints.Own.kept (zu R9).1 sg (by simpa using pd),?_,⟨row_kept h0 sg d1,row_kept h1 sg d1,?_,row_kept h3 sg d1,row_kept h4 sg d1⟩,(sg.block B (by have:=Array.getElem?_eq_some_iff.1 q9;exact this.1) (fun e=>dq (by injection e with e;exact e.symm))).trans q9,b9.grown sg b9.size (fun j hj=>by injection hj with hj;omega),Nat.le_trans n9 sg.size⟩⟩
  ·show Box _ _ _ (.slice x.aa x.b.ac.length x.ca) (.slice x.ai x.b.ic.length x.ci) (.slice (some ⟨g9,0,none⟩) (x.b.bs++[r3 [r0,r1,r2]]).length c9) (.slice x.al x.b.ls.length x.cl) (.slice x.ats x.b.ts.length x.ct) (.int .i64 x.b.lot)
   rw[ln]
   exact sb
  ·show World.ownsRow _ _ _ _ _ _ _
   have o:=row_kept (zu O9) sg d1
   simp only[ln]
   rw[show Triples.flat3 (x.b.bs++[r3 [r0,r1,r2]])=Triples.flat3 x.b.bs++[.int .i64 r0,.int .i64 r1,.int .i64 (r2-1000000000000000)] from flat_t _ _ _ _]
   exact o
 ·unfold oC26
  go_simp
  refine hK.out _ _ KB (fun hHeld=>?_)
  clear hK K
  try simp only[oC26,Act.put,zA,zB,zC]
  refine wpAnyH_ready (rs:=[4]) (by kernel_rfl) (by simp) ?_
  refine AllReadyH.cons (o:=oC24) rfl (fun K hK=>?_) AllReadyH.nil
  unfold oC24
  go_simp
  refine hK.out _ _ KB (fun hHeld=>?_)
  clear hK K
  try simp only[oC24,Act.put,zA,zB,zC]
  refine wpAnyH_ready (rs:=[7]) (by kernel_rfl) (by simp) ?_
  refine AllReadyH.cons (o:=oC27) rfl (fun K hK=>?_) AllReadyH.nil
  refine step_app (v.drew.alloc (.cells #[.int .i64 r0,.int .i64 r1,.int .i64 (r2-1000000000000000)] 78)) (by rfl) _ _ 28 78 (by rfl) (.agg #[.int .i64 0,.int .i64 0,.int .i64 0]) 3 24 Tryz.underlying28 info_bs rfl (by decide) (by decide) N (.slice x.ab x.b.bs.length x.cb) x.b.bs.length (Triples.flat3 x.b.bs) v.drew.heap.size [.int .i64 r0,.int .i64 r1,.int .i64 (r2-1000000000000000)] (by rfl) (by rfl) (row_step (W:=v.drew) ro (one_more v.drew (.cells #[.int .i64 r0,.int .i64 r1,.int .i64 (r2-1000000000000000)] 78))) rfl (litm v.drew _ _ _ (by rfl)) (by simp[Value.oneCell']) (by omega) (Nat.le_trans (show N≤v.drew.heap.size from rn) (by simp)) ?_
  intro g9 c9 u9 o9 gr9
  have BL:∀j,(.slice x.ab x.b.bs.length x.cb:Value).ownBlock=some j→N≤j:=fun j hj=>(World.ownsRow.lt ro j hj).1
  have BM:∀j,(.slice x.ab x.b.bs.length x.cb:Value).ownBlock=some j→j<v.heap.size:=fun j hj=>(World.ownsRow.lt ro j hj).2
  have NE:=NW
  have RA:=zh ((show Rs w0 v.drew p D B N s' x from rs_drew (zu RX)).step (one_more v.drew (.cells #[.int .i64 r0,.int .i64 r1,.int .i64 (r2-1000000000000000)] 78)))
  have R9:=zh (show Pl u9 w0.heap.size p s'∧Box u9 w0.heap.size D (.slice x.aa x.b.ac.length x.ca) (.slice x.ai x.b.ic.length x.ci) (.slice x.ab x.b.bs.length x.cb) (.slice x.al x.b.ls.length x.cl) (.slice x.ats x.b.ts.length x.ct) (.int .i64 x.b.lot) from⟨Ints.Own.kept (zu RA).pl gr9 (fun e=>by have:=BL _ e.symm;omega),(zu RA).bx.kept gr9 (fun e=>by have:=BL _ e.symm;omega)⟩)
  have O9:=zh o9
  have OO:=zh (show u9.ownsRow N 75 2 (.slice x.aa x.b.ac.length x.ca) x.b.ac.length (Pairs.flat x.b.ac)∧u9.ownsRow N 76 2 (.slice x.ai x.b.ic.length x.ci) x.b.ic.length (Pairs.flat x.b.ic)∧u9.ownsRow N 80 5 (.slice x.al x.b.ls.length x.cl) x.b.ls.length (Tup5.flat5 x.b.ls)∧u9.ownsRow N 82 8 (.slice x.ats x.b.ts.length x.ct) x.b.ts.length (Tup8.flat8 x.b.ts) from⟨World.ownsRow.kept (zu RA).o.oa gr9 (row_ne (zu RA).o.oa (zu RA).o.ob (by decide)),World.ownsRow.kept (zu RA).o.oi gr9 (row_ne (zu RA).o.oi (zu RA).o.ob (by decide)),World.ownsRow.kept (zu RA).o.ol gr9 (row_ne (zu RA).o.ol (zu RA).o.ob (by decide)),World.ownsRow.kept (zu RA).o.ot gr9 (row_ne (zu RA).o.ot (zu RA).o.ob (by decide))⟩)
  have RR:=zh (show u9.heap[B]?=some (.cells #[.pointer (some ⟨D,0,none⟩)] 124 (0,0))∧Below w0.heap.size w0 u9∧N≤u9.heap.size from⟨(gr9.block B (by have:=(zu RA).ltB;exact this) (fun e=>by have:=BL _ e.symm;omega)).trans (zu RA).q,(zu RA).b.grown gr9 (zu RA).b.size (fun j hj=>by have:=BL _ hj;omega),Nat.le_trans (zu RA).n gr9.size⟩)
  have KA:=zh (show Kp W u9 from((zu KX).trans (Kp.drew (Kp.below (one_more v.drew (.cells #[.int .i64 r0,.int .i64 r1,.int .i64 (r2-1000000000000000)] 78))))).trans (Kp.grown gr9 (fun j hj=>by obtain⟨c,hc⟩:=row_typ (zu RA).o.ob j hj;exact⟨_,hc,rfl⟩)))
  have fr9:u9.frozen? ⟨D,2,none⟩=false:=(zu R9).2.free 2
  have bc9:=(zu R9).2.c2
  have SB:=zh ((zu R9).2.set2 (.slice (some ⟨g9,0,none⟩) (x.b.bs.length+1) c9))
  have KC:u9.cell? ⟨B,0,none⟩=some (.pointer (some ⟨D,0,none⟩))∧u9.cell? ⟨W.heap.size+1,0,none⟩=some (.int .i64 r0)∧u9.cell? ⟨W.heap.size+1,1,none⟩=some (.int .i64 r1)∧u9.cell? ⟨W.heap.size+1,2,none⟩=some (.int .i64 (r2-1000000000000000)):=⟨gr9.cell KB.1 (fun e=>by have:=BL _ e.symm;simp only at this;omega),gr9.cell KB.2.1 (fun e=>by exact NE e),gr9.cell KB.2.2.1 (fun e=>by exact NE e),gr9.cell KB.2.2.2 (fun e=>by exact NE e)⟩
  have KD:(u9.setCell ⟨D,2,none⟩ (.slice (some ⟨g9,0,none⟩) (x.b.bs.length+1) c9)).cell? ⟨B,0,none⟩=some (.pointer (some ⟨D,0,none⟩))∧(u9.setCell ⟨D,2,none⟩ (.slice (some ⟨g9,0,none⟩) (x.b.bs.length+1) c9)).cell? ⟨W.heap.size+1,0,none⟩=some (.int .i64 r0)∧(u9.setCell ⟨D,2,none⟩ (.slice (some ⟨g9,0,none⟩) (x.b.bs.length+1) c9)).cell? ⟨W.heap.size+1,1,none⟩=some (.int .i64 r1)∧(u9.setCell ⟨D,2,none⟩ (.slice (some ⟨g9,0,none⟩) (x.b.bs.length+1) c9)).cell? ⟨W.heap.size+1,2,none⟩=some (.int .i64 (r2-1000000000000000)):=⟨(cell_grown (zu SB).2 0 (g:=B) (by have:=(zu RA).ltB;have:=gr9.size;omega) (fun e=>dq e.symm)).trans KC.1,(cell_grown (zu SB).2 0 (g:=W.heap.size+1) (by have:=gr9.size;simp at this;omega) (by omega)).trans KC.2.1,(cell_grown (zu SB).2 1 (g:=W.heap.size+1) (by have:=gr9.size;simp at this;omega) (by omega)).trans KC.2.2.1,(cell_grown (zu SB).2 2 (g:=W.heap.size+1) (by have:=gr9.size;simp at this;omega) (by omega)).trans KC.2.2.2⟩
  clear o9
  refine hK.out _ _ KC (fun hHeld=>?_)
  clear hK K
  try simp only[oC27,Act.put,zA,zB,zC]
  refine tk 8 oC28 (.pointer (some ⟨D,0,none⟩)) rfl (by kernel_rfl) (fun _ _ _ h=>h) (by rfl) (fun w hSw=>?_) hHeld ?_
  ·(try dsimp only at hSw)
   unfold oC28
   go_simp
  try simp only[oC28,Act.put,zA,zB,zC]
  refine tk 9 oC29 (.pointer (some ⟨D,2,none⟩)) rfl (by kernel_rfl) (fun _ _ _ h=>h) (by rfl) (fun w hSw=>?_) hHeld ?_
  ·(try dsimp only at hSw)
   unfold oC29
   go_simp
  try simp only[oC29,Act.put,zA,zB,zC]
  refine wpAnyH_ready (rs:=[10]) (by kernel_rfl) (by simp) ?_
  refine AllReadyH.cons (o:=oC210) rfl (fun K hK=>?_) AllReadyH.nil
  unfold oC210
  go_simp
  refine hK.out _ _ KD (fun hHeld=>?_)
  clear hK K
  try simp only[oC210,Act.put,zA,zB,zC]
  refine wpAnyH_done (by kernel_rfl) ?_ _
  clear K0 KB KC KD bc bcD bcA bc9 fr9 eB e0 e1 e2
  go_wp2
  go_end0
  obtain⟨sb,sg⟩:=zu SB
  obtain⟨h0,h1,h3,h4⟩:=zu OO
  obtain⟨q9,b9,n9⟩:=zu RR
  have ln:(x.b.bs++[r3 [r0,r1,r2]]).length=x.b.bs.length+1:=by simp
  refine .inr ⟨rfl,rfl,(zu KA).trans (Kp.grown sg (fun j hj=>by injection hj with hj;subst hj;obtain⟨c,hc⟩:=row_typ (zu R9).2 _ rfl;exact⟨_,hc,rfl⟩)),(⟨x.aa,x.ca,x.ai,x.ci,some ⟨g9,0,none⟩,c9,x.al,x.cl,x.ats,x.ct,⟨x.b.ac,x.b.ic,x.b.bs++[r3 [r0,r1,r2]],x.b.ls,x.b.ts,x.b.lot⟩⟩:Ix),rfl,⟨Ints.Own.kept (zu R9).1 sg (by simpa using pd),?_,⟨row_kept h0 sg d1,row_kept h1 sg d1,?_,row_kept h3 sg d1,row_kept h4 sg d1⟩,(sg.block B (by have:=Array.getElem?_eq_some_iff.1 q9;exact this.1) (fun e=>dq (by injection e with e;exact e.symm))).trans q9,b9.grown sg b9.size (fun j hj=>by injection hj with hj;omega),Nat.le_trans n9 sg.size⟩⟩
  ·show Box _ _ _ (.slice x.aa x.b.ac.length x.ca) (.slice x.ai x.b.ic.length x.ci) (.slice (some ⟨g9,0,none⟩) (x.b.bs++[r3 [r0,r1,r2]]).length c9) (.slice x.al x.b.ls.length x.cl) (.slice x.ats x.b.ts.length x.ct) (.int .i64 x.b.lot)
   rw[ln]
   exact sb
  ·show World.ownsRow _ _ _ _ _ _ _
   have o:=row_kept (zu O9) sg d1
   simp only[ln]
   rw[show Triples.flat3 (x.b.bs++[r3 [r0,r1,r2]])=Triples.flat3 x.b.bs++[.int .i64 r0,.int .i64 r1,.int .i64 (r2-1000000000000000)] from flat_t _ _ _ _]
   exact o
theorem cl3(w0 W:World)(gl cl p D B N:Nat)(xs:List Int)(et:TypeId)(ev:Value)(s:Int)(x:Ix)(G:Pg oz w0 gl cl p D B N xs et ev)(R:Rs w0 W p D B N s x)(hs:s≤9223372036854775807)(hl:x.b.ls.length≤1000):
  Calls Tryz.prog 100 #[.agg #[.slice (some ⟨gl,oz,none⟩) xs.length cl,.pointer (some ⟨p,0,none⟩)],.pointer (some ⟨B,0,none⟩)] W (ClS 3 (gets xs 5 s []) w0 W p D B N x):=by
 obtain⟨l0,l1,g,a,e,z,p0,p1,d0,d1,q0,q1,pd,pq,dq⟩:=G
 have nn:=R.n
 have BU:=zh (show Below W.heap.size W (((W.alloc (.cells #[.slice (some ⟨gl,oz,none⟩) xs.length cl,.pointer (some ⟨p,0,none⟩)] 92)).alloc (.cells #[.int .i64 0,.int .i64 0,.int .i64 0,.int .i64 0,.int .i64 0] 80)).alloc (.cells #[.pointer (some ⟨W.heap.size+1,0,none⟩),.pointer (some ⟨W.heap.size+1,1,none⟩),.pointer (some ⟨W.heap.size+1,2,none⟩),.pointer (some ⟨W.heap.size+1,3,none⟩),.pointer (some ⟨W.heap.size+1,4,none⟩)] 90)) from(((Below.refl _ _).alloc (Nat.le_refl _) _).alloc (by simp) _).alloc (by simp;omega) _)
 have RU:=zh (R.step (zu BU))
 have TU:=zh (show Tg (((W.alloc (.cells #[.slice (some ⟨gl,oz,none⟩) xs.length cl,.pointer (some ⟨p,0,none⟩)] 92)).alloc (.cells #[.int .i64 0,.int .i64 0,.int .i64 0,.int .i64 0,.int .i64 0] 80)).alloc (.cells #[.pointer (some ⟨W.heap.size+1,0,none⟩),.pointer (some ⟨W.heap.size+1,1,none⟩),.pointer (some ⟨W.heap.size+1,2,none⟩),.pointer (some ⟨W.heap.size+1,3,none⟩),.pointer (some ⟨W.heap.size+1,4,none⟩)] 90)) w0.heap.size 80 5 (W.heap.size+1) [.int .i64 0,.int .i64 0,.int .i64 0,.int .i64 0,.int .i64 0] from by
  have:=World.ownsRow.alloc (World.ownsRow_lit (base:=w0.heap.size) (size:=5) (e:=80) (W.alloc (.cells #[.slice (some ⟨gl,oz,none⟩) xs.length cl,.pointer (some ⟨p,0,none⟩)] 92)) #[.int .i64 0,.int .i64 0,.int .i64 0,.int .i64 0,.int .i64 0] 1 (by have:=R.b.size;simp;omega) (by decide) rfl) (.cells #[.pointer (some ⟨W.heap.size+1,0,none⟩),.pointer (some ⟨W.heap.size+1,1,none⟩),.pointer (some ⟨W.heap.size+1,2,none⟩),.pointer (some ⟨W.heap.size+1,3,none⟩),.pointer (some ⟨W.heap.size+1,4,none⟩)] 90)
  simpa[Tg] using this)
 have PU:=zh (show Ptr (((W.alloc (.cells #[.slice (some ⟨gl,oz,none⟩) xs.length cl,.pointer (some ⟨p,0,none⟩)] 92)).alloc (.cells #[.int .i64 0,.int .i64 0,.int .i64 0,.int .i64 0,.int .i64 0] 80)).alloc (.cells #[.pointer (some ⟨W.heap.size+1,0,none⟩),.pointer (some ⟨W.heap.size+1,1,none⟩),.pointer (some ⟨W.heap.size+1,2,none⟩),.pointer (some ⟨W.heap.size+1,3,none⟩),.pointer (some ⟨W.heap.size+1,4,none⟩)] 90)) (W.heap.size+2) (W.heap.size+1) 5 from fun i hi=>by
  have:i=0∨i=1∨i=2∨i=3∨i=4:=by omega
  have q:=litm ((W.alloc (.cells #[.slice (some ⟨gl,oz,none⟩) xs.length cl,.pointer (some ⟨p,0,none⟩)] 92)).alloc (.cells #[.int .i64 0,.int .i64 0,.int .i64 0,.int .i64 0,.int .i64 0] 80)) [.pointer (some ⟨W.heap.size+1,0,none⟩),.pointer (some ⟨W.heap.size+1,1,none⟩),.pointer (some ⟨W.heap.size+1,2,none⟩),.pointer (some ⟨W.heap.size+1,3,none⟩),.pointer (some ⟨W.heap.size+1,4,none⟩)] 90 #[.pointer (some ⟨W.heap.size+1,0,none⟩),.pointer (some ⟨W.heap.size+1,1,none⟩),.pointer (some ⟨W.heap.size+1,2,none⟩),.pointer (some ⟨W.heap.size+1,3,none⟩),.pointer (some ⟨W.heap.size+1,4,none⟩)] rfl i
  rw[show((W.alloc (.cells #[.slice (some ⟨gl,oz,none⟩) xs.length cl,.pointer (some ⟨p,0,none⟩)] 92)).alloc (.cells #[.int .i64 0,.int .i64 0,.int .i64 0,.int .i64 0,.int .i64 0] 80)).heap.size=W.heap.size+2 by simp] at q
  rcases this with rfl|rfl|rfl|rfl|rfl<;>exact q _ rfl)
 have us:((((W.alloc (.cells #[.slice (some ⟨gl,oz,none⟩) xs.length cl,.pointer (some ⟨p,0,none⟩)] 92)).alloc (.cells #[.int .i64 0,.int .i64 0,.int .i64 0,.int .i64 0,.int .i64 0] 80)).alloc (.cells #[.pointer (some ⟨W.heap.size+1,0,none⟩),.pointer (some ⟨W.heap.size+1,1,none⟩),.pointer (some ⟨W.heap.size+1,2,none⟩),.pointer (some ⟨W.heap.size+1,3,none⟩),.pointer (some ⟨W.heap.size+1,4,none⟩)] 90))).heap.size=W.heap.size+3:=by simp
 have MU:=zh (iMust (((W.alloc (.cells #[.slice (some ⟨gl,oz,none⟩) xs.length cl,.pointer (some ⟨p,0,none⟩)] 92)).alloc (.cells #[.int .i64 0,.int .i64 0,.int .i64 0,.int .i64 0,.int .i64 0] 80)).alloc (.cells #[.pointer (some ⟨W.heap.size+1,0,none⟩),.pointer (some ⟨W.heap.size+1,1,none⟩),.pointer (some ⟨W.heap.size+1,2,none⟩),.pointer (some ⟨W.heap.size+1,3,none⟩),.pointer (some ⟨W.heap.size+1,4,none⟩)] 90)) gl cl p w0.heap.size 80 5 (W.heap.size+1) (W.heap.size+2) 5 5 xs s [.int .i64 0,.int .i64 0,.int .i64 0,.int .i64 0,.int .i64 0] ev et hs l0 l1 g (a.below (zu RU).b g) (zu RU).pl (zu TU) (fun i hi=>by
  have:i=0∨i=1∨i=2∨i=3∨i=4:=by omega
  rcases this with rfl|rfl|rfl|rfl|rfl<;>exact⟨0,rfl⟩) (zu PU) (by omega) (by omega) (by omega) (by omega) (by omega) (((zu RU).b.cell (p:=⟨0,0,none⟩) z).trans e) z)
 have GL:=zh (gets_len xs 5 s [])
 have GA:=zh (gets_all xs 5 s [] (by simp))
 have RW:=zh R
 clear a e R TU PU us
 generalize gets xs 5 s []=r at *
 obtain⟨l,s',ok⟩:=r
 go_enter Tryz.func100,Tryz.ntmps100
 go_wp2_with fail
 refine(zu MU).mono ?_
 rintro e u (⟨h1,⟨eu,ee,rfl⟩,h3⟩|⟨h1,rfl,h3,h4,h5⟩)
 ·have b1:=(zu BU)
  have g3:=h3.to (B:=w0.heap.size) (by have:=(zu RW).b.size;have:=b1.size;omega) p0 (by have:=(zu RW).b.size;omega)
  exact⟨rfl,.inl ⟨h1,⟨eu,ee,rfl⟩,(zu RU).b.trans g3⟩⟩
 simp only at h1
 subst h1
 have ll:=(zu GL) rfl
 obtain⟨r0,r1,r2,r3,r4,rfl⟩:=list5 (show l.length=5 from by simpa using ll)
 have GW:=zh (show W.grownBy u (some p) from Gr2.grown (((Gr2.refl W p (W.heap.size+1)).step (zu BU)).trans h3) (by omega))
 have RV:=zh ((zu RW).moved (zu GW) p0 p1 pd pq h4)
 have TV:=zh (show Tg u w0.heap.size 80 5 (W.heap.size+1) [.int .i64 r0,.int .i64 r1,.int .i64 r2,.int .i64 r3,.int .i64 r4] from h5)
 have FA:=zh ((zu GA) rfl)
 have KV:=zh (Kp.grown (zu GW) (fun j hj=>by injection hj with hj;subst hj;exact(zu RW).typP))
 clear ll h3 h4 h5 GL GA MU RU BU GW
 have dl:=(zu TV).lt
 go_wp2_with fail
 have RX:=RV
 have KX:=KV
 have TX:=TV
 clear RV KV TV
 have dl:=(zu TX).lt
 have rl:=(zu RX).ltB
 have rn:=(zu RX).n
 have dD:=(zu RX).bx.lt.2
 have ro:=(zu RX).o.ol
 have e0:u.cell? ⟨W.heap.size+1,0,none⟩=some (.int .i64 r0):=(zu TX).at rfl
 have e1:u.cell? ⟨W.heap.size+1,1,none⟩=some (.int .i64 r1):=(zu TX).at rfl
 have e2:u.cell? ⟨W.heap.size+1,2,none⟩=some (.int .i64 r2):=(zu TX).at rfl
 have e3:u.cell? ⟨W.heap.size+1,3,none⟩=some (.int .i64 r3):=(zu TX).at rfl
 have e4:u.cell? ⟨W.heap.size+1,4,none⟩=some (.int .i64 r4):=(zu TX).at rfl
 have eB:=(zu RX).cellB
 have bc:=(zu RX).bx.c3
 have NW:some (W.heap.size+1)≠(.slice x.al x.b.ls.length x.cl:Value).ownBlock:=fun e=>by
  have:=(World.ownsRow.lt (zu RW).o.ol _ e.symm).2
  omega
 have K0:u.cell? ⟨B,0,none⟩=some (.pointer (some ⟨D,0,none⟩))∧u.cell? ⟨W.heap.size+1,0,none⟩=some (.int .i64 r0)∧u.cell? ⟨W.heap.size+1,1,none⟩=some (.int .i64 r1)∧u.cell? ⟨W.heap.size+1,2,none⟩=some (.int .i64 r2)∧u.cell? ⟨W.heap.size+1,3,none⟩=some (.int .i64 r3)∧u.cell? ⟨W.heap.size+1,4,none⟩=some (.int .i64 r4):=⟨eB,e0,e1,e2,e3,e4⟩
 have KB:(u.drew.alloc (.cells #[.int .i64 r0,.int .i64 r1,.int .i64 r2,.int .i64 r3,.int .i64 r4] 80)).cell? ⟨B,0,none⟩=some (.pointer (some ⟨D,0,none⟩))∧(u.drew.alloc (.cells #[.int .i64 r0,.int .i64 r1,.int .i64 r2,.int .i64 r3,.int .i64 r4] 80)).cell? ⟨W.heap.size+1,0,none⟩=some (.int .i64 r0)∧(u.drew.alloc (.cells #[.int .i64 r0,.int .i64 r1,.int .i64 r2,.int .i64 r3,.int .i64 r4] 80)).cell? ⟨W.heap.size+1,1,none⟩=some (.int .i64 r1)∧(u.drew.alloc (.cells #[.int .i64 r0,.int .i64 r1,.int .i64 r2,.int .i64 r3,.int .i64 r4] 80)).cell? ⟨W.heap.size+1,2,none⟩=some (.int .i64 r2)∧(u.drew.alloc (.cells #[.int .i64 r0,.int .i64 r1,.int .i64 r2,.int .i64 r3,.int .i64 r4] 80)).cell? ⟨W.heap.size+1,3,none⟩=some (.int .i64 r3)∧(u.drew.alloc (.cells #[.int .i64 r0,.int .i64 r1,.int .i64 r2,.int .i64 r3,.int .i64 r4] 80)).cell? ⟨W.heap.size+1,4,none⟩=some (.int .i64 r4):=⟨((one_more u.drew (.cells #[.int .i64 r0,.int .i64 r1,.int .i64 r2,.int .i64 r3,.int .i64 r4] 80)).cell (p:=⟨B,0,none⟩) rl).trans eB,((one_more u.drew (.cells #[.int .i64 r0,.int .i64 r1,.int .i64 r2,.int .i64 r3,.int .i64 r4] 80)).cell (p:=⟨W.heap.size+1,0,none⟩) dl.2).trans e0,((one_more u.drew (.cells #[.int .i64 r0,.int .i64 r1,.int .i64 r2,.int .i64 r3,.int .i64 r4] 80)).cell (p:=⟨W.heap.size+1,1,none⟩) dl.2).trans e1,((one_more u.drew (.cells #[.int .i64 r0,.int .i64 r1,.int .i64 r2,.int .i64 r3,.int .i64 r4] 80)).cell (p:=⟨W.heap.size+1,2,none⟩) dl.2).trans e2,((one_more u.drew (.cells #[.int .i64 r0,.int .i64 r1,.int .i64 r2,.int .i64 r3,.int .i64 r4] 80)).cell (p:=⟨W.heap.size+1,3,none⟩) dl.2).trans e3,((one_more u.drew (.cells #[.int .i64 r0,.int .i64 r1,.int .i64 r2,.int .i64 r3,.int .i64 r4] 80)).cell (p:=⟨W.heap.size+1,4,none⟩) dl.2).trans e4⟩
 have bcD:u.drew.cell? ⟨D,3,none⟩=some (.slice x.al x.b.ls.length x.cl):=bc
 have bcA:(u.alloc (.cells #[.int .i64 r0,.int .i64 r1,.int .i64 r2,.int .i64 r3,.int .i64 r4] 80)).cell? ⟨D,3,none⟩=some (.slice x.al x.b.ls.length x.cl):=((one_more u.drew (.cells #[.int .i64 r0,.int .i64 r1,.int .i64 r2,.int .i64 r3,.int .i64 r4] 80)).cell (p:=⟨D,3,none⟩) dD).trans bc
 refine wp_region_held_drew (S:=(fun w'=>w'.cell? ⟨B,0,none⟩=some (.pointer (some ⟨D,0,none⟩))∧w'.cell? ⟨W.heap.size+1,0,none⟩=some (.int .i64 r0)∧w'.cell? ⟨W.heap.size+1,1,none⟩=some (.int .i64 r1)∧w'.cell? ⟨W.heap.size+1,2,none⟩=some (.int .i64 r2)∧w'.cell? ⟨W.heap.size+1,3,none⟩=some (.int .i64 r3)∧w'.cell? ⟨W.heap.size+1,4,none⟩=some (.int .i64 r4))) (by kernel_rfl) K0 (fun hHeld=>?_)
 refine tk 0 oC30 (.pointer (some ⟨D,0,none⟩)) rfl (by kernel_rfl) (fun _ _ _ h=>h) (by rfl) (fun w hSw=>?_) hHeld ?_
 ·(try dsimp only at hSw)
  unfold oC30
  go_simp
 try simp only[oC30,Act.put,zA,zB,zC]
 refine tk 1 oC31 (.pointer (some ⟨D,0,none⟩)) rfl (by kernel_rfl) (fun _ _ _ h=>h) (by rfl) (fun w hSw=>?_) hHeld ?_
 ·(try dsimp only at hSw)
  unfold oC31
  go_simp
 try simp only[oC31,Act.put,zA,zB,zC]
 refine tk 2 oC32 (.pointer (some ⟨D,0,none⟩)) rfl (by kernel_rfl) (fun _ _ _ h=>h) (by rfl) (fun w hSw=>?_) hHeld ?_
 ·(try dsimp only at hSw)
  unfold oC32
  go_simp
 try simp only[oC32,Act.put,zA,zB,zC]
 refine tk 3 oC33 (.pointer (some ⟨D,3,none⟩)) rfl (by kernel_rfl) (fun _ _ _ h=>h) (by rfl) (fun w hSw=>?_) hHeld ?_
 ·(try dsimp only at hSw)
  unfold oC33
  go_simp
 try simp only[oC33,Act.put,zA,zB,zC]
 refine tk 5 oC35 (.agg #[.int .i64 r0,.int .i64 r1,.int .i64 r2,.int .i64 r3,.int .i64 r4]) rfl (by kernel_rfl) (fun _ _ _ h=>h) (by rfl) (fun w hSw=>?_) hHeld ?_
 ·(try dsimp only at hSw)
  unfold oC35
  go_simp
 try simp only[oC35,Act.put,zA,zB,zC]
 refine wpAnyH_ready (rs:=[4,6]) (by kernel_rfl) (by simp) ?_
 refine AllReadyH.cons (o:=oC34) rfl (fun K hK=>?_) (AllReadyH.cons (o:=oC36) rfl (fun K hK=>?_) AllReadyH.nil)
 ·unfold oC34
  go_simp
  refine hK.out _ _ K0 (fun hHeld=>?_)
  clear hK K
  try simp only[oC34,Act.put,zA,zB,zC]
  refine wpAnyH_ready (rs:=[6]) (by kernel_rfl) (by simp) ?_
  refine AllReadyH.cons (o:=oC36) rfl (fun K hK=>?_) AllReadyH.nil
  unfold oC36
  go_simp
  refine hK.out _ _ KB (fun hHeld=>?_)
  clear hK K
  try simp only[oC36,Act.put,zA,zB,zC]
  refine wpAnyH_ready (rs:=[7]) (by kernel_rfl) (by simp) ?_
  refine AllReadyH.cons (o:=oC37) rfl (fun K hK=>?_) AllReadyH.nil
  refine step_app (u.drew.alloc (.cells #[.int .i64 r0,.int .i64 r1,.int .i64 r2,.int .i64 r3,.int .i64 r4] 80)) (by rfl) _ _ 29 80 (by rfl) (.agg #[.int .i64 0,.int .i64 0,.int .i64 0,.int .i64 0,.int .i64 0]) 5 40 Tryz.underlying29 info_ls rfl (by decide) (by decide) N (.slice x.al x.b.ls.length x.cl) x.b.ls.length (Tup5.flat5 x.b.ls) u.drew.heap.size [.int .i64 r0,.int .i64 r1,.int .i64 r2,.int .i64 r3,.int .i64 r4] (by rfl) (by rfl) (row_step (W:=u.drew) ro (one_more u.drew (.cells #[.int .i64 r0,.int .i64 r1,.int .i64 r2,.int .i64 r3,.int .i64 r4] 80))) rfl (litm u.drew _ _ _ (by rfl)) (by simp[Value.oneCell']) (by omega) (Nat.le_trans (show N≤u.drew.heap.size from rn) (by simp)) ?_
  intro g9 c9 u9 o9 gr9
  have BL:∀j,(.slice x.al x.b.ls.length x.cl:Value).ownBlock=some j→N≤j:=fun j hj=>(World.ownsRow.lt ro j hj).1
  have BM:∀j,(.slice x.al x.b.ls.length x.cl:Value).ownBlock=some j→j<u.heap.size:=fun j hj=>(World.ownsRow.lt ro j hj).2
  have NE:=NW
  have RA:=zh ((show Rs w0 u.drew p D B N s' x from rs_drew (zu RX)).step (one_more u.drew (.cells #[.int .i64 r0,.int .i64 r1,.int .i64 r2,.int .i64 r3,.int .i64 r4] 80)))
  have R9:=zh (show Pl u9 w0.heap.size p s'∧Box u9 w0.heap.size D (.slice x.aa x.b.ac.length x.ca) (.slice x.ai x.b.ic.length x.ci) (.slice x.ab x.b.bs.length x.cb) (.slice x.al x.b.ls.length x.cl) (.slice x.ats x.b.ts.length x.ct) (.int .i64 x.b.lot) from⟨Ints.Own.kept (zu RA).pl gr9 (fun e=>by have:=BL _ e.symm;omega),(zu RA).bx.kept gr9 (fun e=>by have:=BL _ e.symm;omega)⟩)
  have O9:=zh o9
  have OO:=zh (show u9.ownsRow N 75 2 (.slice x.aa x.b.ac.length x.ca) x.b.ac.length (Pairs.flat x.b.ac)∧u9.ownsRow N 76 2 (.slice x.ai x.b.ic.length x.ci) x.b.ic.length (Pairs.flat x.b.ic)∧u9.ownsRow N 78 3 (.slice x.ab x.b.bs.length x.cb) x.b.bs.length (Triples.flat3 x.b.bs)∧u9.ownsRow N 82 8 (.slice x.ats x.b.ts.length x.ct) x.b.ts.length (Tup8.flat8 x.b.ts) from⟨World.ownsRow.kept (zu RA).o.oa gr9 (row_ne (zu RA).o.oa (zu RA).o.ol (by decide)),World.ownsRow.kept (zu RA).o.oi gr9 (row_ne (zu RA).o.oi (zu RA).o.ol (by decide)),World.ownsRow.kept (zu RA).o.ob gr9 (row_ne (zu RA).o.ob (zu RA).o.ol (by decide)),World.ownsRow.kept (zu RA).o.ot gr9 (row_ne (zu RA).o.ot (zu RA).o.ol (by decide))⟩)
  have RR:=zh (show u9.heap[B]?=some (.cells #[.pointer (some ⟨D,0,none⟩)] 124 (0,0))∧Below w0.heap.size w0 u9∧N≤u9.heap.size from⟨(gr9.block B (by have:=(zu RA).ltB;exact this) (fun e=>by have:=BL _ e.symm;omega)).trans (zu RA).q,(zu RA).b.grown gr9 (zu RA).b.size (fun j hj=>by have:=BL _ hj;omega),Nat.le_trans (zu RA).n gr9.size⟩)
  have KA:=zh (show Kp W u9 from((zu KX).trans (Kp.drew (Kp.below (one_more u.drew (.cells #[.int .i64 r0,.int .i64 r1,.int .i64 r2,.int .i64 r3,.int .i64 r4] 80))))).trans (Kp.grown gr9 (fun j hj=>by obtain⟨c,hc⟩:=row_typ (zu RA).o.ol j hj;exact⟨_,hc,rfl⟩)))
  have fr9:u9.frozen? ⟨D,3,none⟩=false:=(zu R9).2.free 3
  have bc9:=(zu R9).2.c3
  have SB:=zh ((zu R9).2.set3 (.slice (some ⟨g9,0,none⟩) (x.b.ls.length+1) c9))
  have KC:u9.cell? ⟨B,0,none⟩=some (.pointer (some ⟨D,0,none⟩))∧u9.cell? ⟨W.heap.size+1,0,none⟩=some (.int .i64 r0)∧u9.cell? ⟨W.heap.size+1,1,none⟩=some (.int .i64 r1)∧u9.cell? ⟨W.heap.size+1,2,none⟩=some (.int .i64 r2)∧u9.cell? ⟨W.heap.size+1,3,none⟩=some (.int .i64 r3)∧u9.cell? ⟨W.heap.size+1,4,none⟩=some (.int .i64 r4):=⟨gr9.cell KB.1 (fun e=>by have:=BL _ e.symm;simp only at this;omega),gr9.cell KB.2.1 (fun e=>by exact NE e),gr9.cell KB.2.2.1 (fun e=>by exact NE e),gr9.cell KB.2.2.2.1 (fun e=>by exact NE e),gr9.cell KB.2.2.2.2.1 (fun e=>by exact NE e),gr9.cell KB.2.2.2.2.2 (fun e=>by exact NE e)⟩
  have KD:(u9.setCell ⟨D,3,none⟩ (.slice (some ⟨g9,0,none⟩) (x.b.ls.length+1) c9)).cell? ⟨B,0,none⟩=some (.pointer (some ⟨D,0,none⟩))∧(u9.setCell ⟨D,3,none⟩ (.slice (some ⟨g9,0,none⟩) (x.b.ls.length+1) c9)).cell? ⟨W.heap.size+1,0,none⟩=some (.int .i64 r0)∧(u9.setCell ⟨D,3,none⟩ (.slice (some ⟨g9,0,none⟩) (x.b.ls.length+1) c9)).cell? ⟨W.heap.size+1,1,none⟩=some (.int .i64 r1)∧(u9.setCell ⟨D,3,none⟩ (.slice (some ⟨g9,0,none⟩) (x.b.ls.length+1) c9)).cell? ⟨W.heap.size+1,2,none⟩=some (.int .i64 r2)∧(u9.setCell ⟨D,3,none⟩ (.slice (some ⟨g9,0,none⟩) (x.b.ls.length+1) c9)).cell? ⟨W.heap.size+1,3,none⟩=some (.int .i64 r3)∧(u9.setCell ⟨D,3,none⟩ (.slice (some ⟨g9,0,none⟩) (x.b.ls.length+1) c9)).cell? ⟨W.heap.size+1,4,none⟩=some (.int .i64 r4):=⟨(cell_grown (zu SB).2 0 (g:=B) (by have:=(zu RA).ltB;have:=gr9.size;omega) (fun e=>dq e.symm)).trans KC.1,(cell_grown (zu SB).2 0 (g:=W.heap.size+1) (by have:=gr9.size;simp at this;omega) (by omega)).trans KC.2.1,(cell_grown (zu SB).2 1 (g:=W.heap.size+1) (by have:=gr9.size;simp at this;omega) (by omega)).trans KC.2.2.1,(cell_grown (zu SB).2 2 (g:=W.heap.size+1) (by have:=gr9.size;simp at this;omega) (by omega)).trans KC.2.2.2.1,(cell_grown (zu SB).2 3 (g:=W.heap.size+1) (by have:=gr9.size;simp at this;omega) (by omega)).trans KC.2.2.2.2.1,(cell_grown (zu SB).2 4 (g:=W.heap.size+1) (by have:=gr9.size;simp at this;omega) (by omega)).trans KC.2.2.2.2.2⟩
  clear o9
  refine hK.out _ _ KC (fun hHeld=>?_)
  clear hK K
  try simp only[oC37,Act.put,zA,zB,zC]
  refine tk 8 oC38 (.pointer (some ⟨D,0,none⟩)) rfl (by kernel_rfl) (fun _ _ _ h=>h) (by rfl) (fun w hSw=>?_) hHeld ?_
  ·(try dsimp only at hSw)
   unfold oC38
   go_simp
  try simp only[oC38,Act.put,zA,zB,zC]
  refine tk 9 oC39 (.pointer (some ⟨D,3,none⟩)) rfl (by kernel_rfl) (fun _ _ _ h=>h) (by rfl) (fun w hSw=>?_) hHeld ?_
  ·(try dsimp only at hSw)
   unfold oC39
   go_simp
  try simp only[oC39,Act.put,zA,zB,zC]
  refine wpAnyH_ready (rs:=[10]) (by kernel_rfl) (by simp) ?_
  refine AllReadyH.cons (o:=oC310) rfl (fun K hK=>?_) AllReadyH.nil
  unfold oC310
  go_simp
  refine hK.out _ _ KD (fun hHeld=>?_)
  clear hK K
  try simp only[oC310,Act.put,zA,zB,zC]
  refine wpAnyH_done (by kernel_rfl) ?_ _
  clear K0 KB KC KD bc bcD bcA bc9 fr9 eB e0 e1 e2 e3 e4
  go_wp2
  go_end0
  obtain⟨sb,sg⟩:=zu SB
  obtain⟨h0,h1,h2,h4⟩:=zu OO
  obtain⟨q9,b9,n9⟩:=zu RR
  have ln:(x.b.ls++[r5 [r0,r1,r2,r3,r4]]).length=x.b.ls.length+1:=by simp
  refine .inr ⟨rfl,rfl,(zu KA).trans (Kp.grown sg (fun j hj=>by injection hj with hj;subst hj;obtain⟨c,hc⟩:=row_typ (zu R9).2 _ rfl;exact⟨_,hc,rfl⟩)),(⟨x.aa,x.ca,x.ai,x.ci,x.ab,x.cb,some ⟨g9,0,none⟩,c9,x.ats,x.ct,⟨x.b.ac,x.b.ic,x.b.bs,x.b.ls++[r5 [r0,r1,r2,r3,r4]],x.b.ts,x.b.lot⟩⟩:Ix),rfl,⟨Ints.Own.kept (zu R9).1 sg (by simpa using pd),?_,⟨row_kept h0 sg d1,row_kept h1 sg d1,row_kept h2 sg d1,?_,row_kept h4 sg d1⟩,(sg.block B (by have:=Array.getElem?_eq_some_iff.1 q9;exact this.1) (fun e=>dq (by injection e with e;exact e.symm))).trans q9,b9.grown sg b9.size (fun j hj=>by injection hj with hj;omega),Nat.le_trans n9 sg.size⟩⟩
  ·show Box _ _ _ (.slice x.aa x.b.ac.length x.ca) (.slice x.ai x.b.ic.length x.ci) (.slice x.ab x.b.bs.length x.cb) (.slice (some ⟨g9,0,none⟩) (x.b.ls++[r5 [r0,r1,r2,r3,r4]]).length c9) (.slice x.ats x.b.ts.length x.ct) (.int .i64 x.b.lot)
   rw[ln]
   exact sb
  ·show World.ownsRow _ _ _ _ _ _ _
   have o:=row_kept (zu O9) sg d1
   simp only[ln]
   rw[show Tup5.flat5 (x.b.ls++[r5 [r0,r1,r2,r3,r4]])=Tup5.flat5 x.b.ls++[.int .i64 r0,.int .i64 r1,.int .i64 r2,.int .i64 r3,.int .i64 r4] from flat_f _ _ _ _ _ _]
   exact o
 ·unfold oC36
  go_simp
  refine hK.out _ _ KB (fun hHeld=>?_)
  clear hK K
  try simp only[oC36,Act.put,zA,zB,zC]
  refine wpAnyH_ready (rs:=[4]) (by kernel_rfl) (by simp) ?_
  refine AllReadyH.cons (o:=oC34) rfl (fun K hK=>?_) AllReadyH.nil
  unfold oC34
  go_simp
  refine hK.out _ _ KB (fun hHeld=>?_)
  clear hK K
  try simp only[oC34,Act.put,zA,zB,zC]
  refine wpAnyH_ready (rs:=[7]) (by kernel_rfl) (by simp) ?_
  refine AllReadyH.cons (o:=oC37) rfl (fun K hK=>?_) AllReadyH.nil
  refine step_app (u.drew.alloc (.cells #[.int .i64 r0,.int .i64 r1,.int .i64 r2,.int .i64 r3,.int .i64 r4] 80)) (by rfl) _ _ 29 80 (by rfl) (.agg #[.int .i64 0,.int .i64 0,.int .i64 0,.int .i64 0,.int .i64 0]) 5 40 Tryz.underlying29 info_ls rfl (by decide) (by decide) N (.slice x.al x.b.ls.length x.cl) x.b.ls.length (Tup5.flat5 x.b.ls) u.drew.heap.size [.int .i64 r0,.int .i64 r1,.int .i64 r2,.int .i64 r3,.int .i64 r4] (by rfl) (by rfl) (row_step (W:=u.drew) ro (one_more u.drew (.cells #[.int .i64 r0,.int .i64 r1,.int .i64 r2,.int .i64 r3,.int .i64 r4] 80))) rfl (litm u.drew _ _ _ (by rfl)) (by simp[Value.oneCell']) (by omega) (Nat.le_trans (show N≤u.drew.heap.size from rn) (by simp)) ?_
  intro g9 c9 u9 o9 gr9
  have BL:∀j,(.slice x.al x.b.ls.length x.cl:Value).ownBlock=some j→N≤j:=fun j hj=>(World.ownsRow.lt ro j hj).1
  have BM:∀j,(.slice x.al x.b.ls.length x.cl:Value).ownBlock=some j→j<u.heap.size:=fun j hj=>(World.ownsRow.lt ro j hj).2
  have NE:=NW
  have RA:=zh ((show Rs w0 u.drew p D B N s' x from rs_drew (zu RX)).step (one_more u.drew (.cells #[.int .i64 r0,.int .i64 r1,.int .i64 r2,.int .i64 r3,.int .i64 r4] 80)))
  have R9:=zh (show Pl u9 w0.heap.size p s'∧Box u9 w0.heap.size D (.slice x.aa x.b.ac.length x.ca) (.slice x.ai x.b.ic.length x.ci) (.slice x.ab x.b.bs.length x.cb) (.slice x.al x.b.ls.length x.cl) (.slice x.ats x.b.ts.length x.ct) (.int .i64 x.b.lot) from⟨Ints.Own.kept (zu RA).pl gr9 (fun e=>by have:=BL _ e.symm;omega),(zu RA).bx.kept gr9 (fun e=>by have:=BL _ e.symm;omega)⟩)
  have O9:=zh o9
  have OO:=zh (show u9.ownsRow N 75 2 (.slice x.aa x.b.ac.length x.ca) x.b.ac.length (Pairs.flat x.b.ac)∧u9.ownsRow N 76 2 (.slice x.ai x.b.ic.length x.ci) x.b.ic.length (Pairs.flat x.b.ic)∧u9.ownsRow N 78 3 (.slice x.ab x.b.bs.length x.cb) x.b.bs.length (Triples.flat3 x.b.bs)∧u9.ownsRow N 82 8 (.slice x.ats x.b.ts.length x.ct) x.b.ts.length (Tup8.flat8 x.b.ts) from⟨World.ownsRow.kept (zu RA).o.oa gr9 (row_ne (zu RA).o.oa (zu RA).o.ol (by decide)),World.ownsRow.kept (zu RA).o.oi gr9 (row_ne (zu RA).o.oi (zu RA).o.ol (by decide)),World.ownsRow.kept (zu RA).o.ob gr9 (row_ne (zu RA).o.ob (zu RA).o.ol (by decide)),World.ownsRow.kept (zu RA).o.ot gr9 (row_ne (zu RA).o.ot (zu RA).o.ol (by decide))⟩)
  have RR:=zh (show u9.heap[B]?=some (.cells #[.pointer (some ⟨D,0,none⟩)] 124 (0,0))∧Below w0.heap.size w0 u9∧N≤u9.heap.size from⟨(gr9.block B (by have:=(zu RA).ltB;exact this) (fun e=>by have:=BL _ e.symm;omega)).trans (zu RA).q,(zu RA).b.grown gr9 (zu RA).b.size (fun j hj=>by have:=BL _ hj;omega),Nat.le_trans (zu RA).n gr9.size⟩)
  have KA:=zh (show Kp W u9 from((zu KX).trans (Kp.drew (Kp.below (one_more u.drew (.cells #[.int .i64 r0,.int .i64 r1,.int .i64 r2,.int .i64 r3,.int .i64 r4] 80))))).trans (Kp.grown gr9 (fun j hj=>by obtain⟨c,hc⟩:=row_typ (zu RA).o.ol j hj;exact⟨_,hc,rfl⟩)))
  have fr9:u9.frozen? ⟨D,3,none⟩=false:=(zu R9).2.free 3
  have bc9:=(zu R9).2.c3
  have SB:=zh ((zu R9).2.set3 (.slice (some ⟨g9,0,none⟩) (x.b.ls.length+1) c9))
  have KC:u9.cell? ⟨B,0,none⟩=some (.pointer (some ⟨D,0,none⟩))∧u9.cell? ⟨W.heap.size+1,0,none⟩=some (.int .i64 r0)∧u9.cell? ⟨W.heap.size+1,1,none⟩=some (.int .i64 r1)∧u9.cell? ⟨W.heap.size+1,2,none⟩=some (.int .i64 r2)∧u9.cell? ⟨W.heap.size+1,3,none⟩=some (.int .i64 r3)∧u9.cell? ⟨W.heap.size+1,4,none⟩=some (.int .i64 r4):=⟨gr9.cell KB.1 (fun e=>by have:=BL _ e.symm;simp only at this;omega),gr9.cell KB.2.1 (fun e=>by exact NE e),gr9.cell KB.2.2.1 (fun e=>by exact NE e),gr9.cell KB.2.2.2.1 (fun e=>by exact NE e),gr9.cell KB.2.2.2.2.1 (fun e=>by exact NE e),gr9.cell KB.2.2.2.2.2 (fun e=>by exact NE e)⟩
  have KD:(u9.setCell ⟨D,3,none⟩ (.slice (some ⟨g9,0,none⟩) (x.b.ls.length+1) c9)).cell? ⟨B,0,none⟩=some (.pointer (some ⟨D,0,none⟩))∧(u9.setCell ⟨D,3,none⟩ (.slice (some ⟨g9,0,none⟩) (x.b.ls.length+1) c9)).cell? ⟨W.heap.size+1,0,none⟩=some (.int .i64 r0)∧(u9.setCell ⟨D,3,none⟩ (.slice (some ⟨g9,0,none⟩) (x.b.ls.length+1) c9)).cell? ⟨W.heap.size+1,1,none⟩=some (.int .i64 r1)∧(u9.setCell ⟨D,3,none⟩ (.slice (some ⟨g9,0,none⟩) (x.b.ls.length+1) c9)).cell? ⟨W.heap.size+1,2,none⟩=some (.int .i64 r2)∧(u9.setCell ⟨D,3,none⟩ (.slice (some ⟨g9,0,none⟩) (x.b.ls.length+1) c9)).cell? ⟨W.heap.size+1,3,none⟩=some (.int .i64 r3)∧(u9.setCell ⟨D,3,none⟩ (.slice (some ⟨g9,0,none⟩) (x.b.ls.length+1) c9)).cell? ⟨W.heap.size+1,4,none⟩=some (.int .i64 r4):=⟨(cell_grown (zu SB).2 0 (g:=B) (by have:=(zu RA).ltB;have:=gr9.size;omega) (fun e=>dq e.symm)).trans KC.1,(cell_grown (zu SB).2 0 (g:=W.heap.size+1) (by have:=gr9.size;simp at this;omega) (by omega)).trans KC.2.1,(cell_grown (zu SB).2 1 (g:=W.heap.size+1) (by have:=gr9.size;simp at this;omega) (by omega)).trans KC.2.2.1,(cell_grown (zu SB).2 2 (g:=W.heap.size+1) (by have:=gr9.size;simp at this;omega) (by omega)).trans KC.2.2.2.1,(cell_grown (zu SB).2 3 (g:=W.heap.size+1) (by have:=gr9.size;simp at this;omega) (by omega)).trans KC.2.2.2.2.1,(cell_grown (zu SB).2 4 (g:=W.heap.size+1) (by have:=gr9.size;simp at this;omega) (by omega)).trans KC.2.2.2.2.2⟩
  clear o9
  refine hK.out _ _ KC (fun hHeld=>?_)
  clear hK K
  try simp only[oC37,Act.put,zA,zB,zC]
  refine tk 8 oC38 (.pointer (some ⟨D,0,none⟩)) rfl (by kernel_rfl) (fun _ _ _ h=>h) (by rfl) (fun w hSw=>?_) hHeld ?_
  ·(try dsimp only at hSw)
   unfold oC38
   go_simp
  try simp only[oC38,Act.put,zA,zB,zC]
  refine tk 9 oC39 (.pointer (some ⟨D,3,none⟩)) rfl (by kernel_rfl) (fun _ _ _ h=>h) (by rfl) (fun w hSw=>?_) hHeld ?_
  ·(try dsimp only at hSw)
   unfold oC39
   go_simp
  try simp only[oC39,Act.put,zA,zB,zC]
  refine wpAnyH_ready (rs:=[10]) (by kernel_rfl) (by simp) ?_
  refine AllReadyH.cons (o:=oC310) rfl (fun K hK=>?_) AllReadyH.nil
  unfold oC310
  go_simp
  refine hK.out _ _ KD (fun hHeld=>?_)
  clear hK K
  try simp only[oC310,Act.put,zA,zB,zC]
  refine wpAnyH_done (by kernel_rfl) ?_ _
  clear K0 KB KC KD bc bcD bcA bc9 fr9 eB e0 e1 e2 e3 e4
  go_wp2
  go_end0
  obtain⟨sb,sg⟩:=zu SB
  obtain⟨h0,h1,h2,h4⟩:=zu OO
  obtain⟨q9,b9,n9⟩:=zu RR
  have ln:(x.b.ls++[r5 [r0,r1,r2,r3,r4]]).length=x.b.ls.length+1:=by simp
  refine .inr ⟨rfl,rfl,(zu KA).trans (Kp.grown sg (fun j hj=>by injection hj with hj;subst hj;obtain⟨c,hc⟩:=row_typ (zu R9).2 _ rfl;exact⟨_,hc,rfl⟩)),(⟨x.aa,x.ca,x.ai,x.ci,x.ab,x.cb,some ⟨g9,0,none⟩,c9,x.ats,x.ct,⟨x.b.ac,x.b.ic,x.b.bs,x.b.ls++[r5 [r0,r1,r2,r3,r4]],x.b.ts,x.b.lot⟩⟩:Ix),rfl,⟨Ints.Own.kept (zu R9).1 sg (by simpa using pd),?_,⟨row_kept h0 sg d1,row_kept h1 sg d1,row_kept h2 sg d1,?_,row_kept h4 sg d1⟩,(sg.block B (by have:=Array.getElem?_eq_some_iff.1 q9;exact this.1) (fun e=>dq (by injection e with e;exact e.symm))).trans q9,b9.grown sg b9.size (fun j hj=>by injection hj with hj;omega),Nat.le_trans n9 sg.size⟩⟩
  ·show Box _ _ _ (.slice x.aa x.b.ac.length x.ca) (.slice x.ai x.b.ic.length x.ci) (.slice x.ab x.b.bs.length x.cb) (.slice (some ⟨g9,0,none⟩) (x.b.ls++[r5 [r0,r1,r2,r3,r4]]).length c9) (.slice x.ats x.b.ts.length x.ct) (.int .i64 x.b.lot)
   rw[ln]
   exact sb
  ·show World.ownsRow _ _ _ _ _ _ _
   have o:=row_kept (zu O9) sg d1
   simp only[ln]
   rw[show Tup5.flat5 (x.b.ls++[r5 [r0,r1,r2,r3,r4]])=Tup5.flat5 x.b.ls++[.int .i64 r0,.int .i64 r1,.int .i64 r2,.int .i64 r3,.int .i64 r4] from flat_f _ _ _ _ _ _]
   exact o
theorem cl4(w0 W:World)(gl cl p D B N:Nat)(xs:List Int)(et:TypeId)(ev:Value)(s:Int)(x:Ix)(G:Pg oz w0 gl cl p D B N xs et ev)(R:Rs w0 W p D B N s x)(hs:s≤9223372036854775807)(hl:x.b.ts.length≤1000):
  Calls Tryz.prog 101 #[.agg #[.slice (some ⟨gl,oz,none⟩) xs.length cl,.pointer (some ⟨p,0,none⟩)],.pointer (some ⟨B,0,none⟩)] W (ClS 4 (gets xs 8 s []) w0 W p D B N x):=by
 obtain⟨l0,l1,g,a,e,z,p0,p1,d0,d1,q0,q1,pd,pq,dq⟩:=G
 have nn:=R.n
 have BU:=zh (show Below W.heap.size W (((W.alloc (.cells #[.slice (some ⟨gl,oz,none⟩) xs.length cl,.pointer (some ⟨p,0,none⟩)] 92)).alloc (.cells #[.int .i64 0,.int .i64 0,.int .i64 0,.int .i64 0,.int .i64 0,.int .i64 0,.int .i64 0,.int .i64 0] 82)).alloc (.cells #[.pointer (some ⟨W.heap.size+1,0,none⟩),.pointer (some ⟨W.heap.size+1,1,none⟩),.pointer (some ⟨W.heap.size+1,2,none⟩),.pointer (some ⟨W.heap.size+1,3,none⟩),.pointer (some ⟨W.heap.size+1,4,none⟩),.pointer (some ⟨W.heap.size+1,5,none⟩),.pointer (some ⟨W.heap.size+1,6,none⟩),.pointer (some ⟨W.heap.size+1,7,none⟩)] 90)) from(((Below.refl _ _).alloc (Nat.le_refl _) _).alloc (by simp) _).alloc (by simp;omega) _)
 have RU:=zh (R.step (zu BU))
 have TU:=zh (show Tg (((W.alloc (.cells #[.slice (some ⟨gl,oz,none⟩) xs.length cl,.pointer (some ⟨p,0,none⟩)] 92)).alloc (.cells #[.int .i64 0,.int .i64 0,.int .i64 0,.int .i64 0,.int .i64 0,.int .i64 0,.int .i64 0,.int .i64 0] 82)).alloc (.cells #[.pointer (some ⟨W.heap.size+1,0,none⟩),.pointer (some ⟨W.heap.size+1,1,none⟩),.pointer (some ⟨W.heap.size+1,2,none⟩),.pointer (some ⟨W.heap.size+1,3,none⟩),.pointer (some ⟨W.heap.size+1,4,none⟩),.pointer (some ⟨W.heap.size+1,5,none⟩),.pointer (some ⟨W.heap.size+1,6,none⟩),.pointer (some ⟨W.heap.size+1,7,none⟩)] 90)) w0.heap.size 82 8 (W.heap.size+1) [.int .i64 0,.int .i64 0,.int .i64 0,.int .i64 0,.int .i64 0,.int .i64 0,.int .i64 0,.int .i64 0] from by
  have:=World.ownsRow.alloc (World.ownsRow_lit (base:=w0.heap.size) (size:=8) (e:=82) (W.alloc (.cells #[.slice (some ⟨gl,oz,none⟩) xs.length cl,.pointer (some ⟨p,0,none⟩)] 92)) #[.int .i64 0,.int .i64 0,.int .i64 0,.int .i64 0,.int .i64 0,.int .i64 0,.int .i64 0,.int .i64 0] 1 (by have:=R.b.size;simp;omega) (by decide) rfl) (.cells #[.pointer (some ⟨W.heap.size+1,0,none⟩),.pointer (some ⟨W.heap.size+1,1,none⟩),.pointer (some ⟨W.heap.size+1,2,none⟩),.pointer (some ⟨W.heap.size+1,3,none⟩),.pointer (some ⟨W.heap.size+1,4,none⟩),.pointer (some ⟨W.heap.size+1,5,none⟩),.pointer (some ⟨W.heap.size+1,6,none⟩),.pointer (some ⟨W.heap.size+1,7,none⟩)] 90)
  simpa[Tg] using this)
 have PU:=zh (show Ptr (((W.alloc (.cells #[.slice (some ⟨gl,oz,none⟩) xs.length cl,.pointer (some ⟨p,0,none⟩)] 92)).alloc (.cells #[.int .i64 0,.int .i64 0,.int .i64 0,.int .i64 0,.int .i64 0,.int .i64 0,.int .i64 0,.int .i64 0] 82)).alloc (.cells #[.pointer (some ⟨W.heap.size+1,0,none⟩),.pointer (some ⟨W.heap.size+1,1,none⟩),.pointer (some ⟨W.heap.size+1,2,none⟩),.pointer (some ⟨W.heap.size+1,3,none⟩),.pointer (some ⟨W.heap.size+1,4,none⟩),.pointer (some ⟨W.heap.size+1,5,none⟩),.pointer (some ⟨W.heap.size+1,6,none⟩),.pointer (some ⟨W.heap.size+1,7,none⟩)] 90)) (W.heap.size+2) (W.heap.size+1) 8 from fun i hi=>by
  have:i=0∨i=1∨i=2∨i=3∨i=4∨i=5∨i=6∨i=7:=by omega
  have q:=litm ((W.alloc (.cells #[.slice (some ⟨gl,oz,none⟩) xs.length cl,.pointer (some ⟨p,0,none⟩)] 92)).alloc (.cells #[.int .i64 0,.int .i64 0,.int .i64 0,.int .i64 0,.int .i64 0,.int .i64 0,.int .i64 0,.int .i64 0] 82)) [.pointer (some ⟨W.heap.size+1,0,none⟩),.pointer (some ⟨W.heap.size+1,1,none⟩),.pointer (some ⟨W.heap.size+1,2,none⟩),.pointer (some ⟨W.heap.size+1,3,none⟩),.pointer (some ⟨W.heap.size+1,4,none⟩),.pointer (some ⟨W.heap.size+1,5,none⟩),.pointer (some ⟨W.heap.size+1,6,none⟩),.pointer (some ⟨W.heap.size+1,7,none⟩)] 90 #[.pointer (some ⟨W.heap.size+1,0,none⟩),.pointer (some ⟨W.heap.size+1,1,none⟩),.pointer (some ⟨W.heap.size+1,2,none⟩),.pointer (some ⟨W.heap.size+1,3,none⟩),.pointer (some ⟨W.heap.size+1,4,none⟩),.pointer (some ⟨W.heap.size+1,5,none⟩),.pointer (some ⟨W.heap.size+1,6,none⟩),.pointer (some ⟨W.heap.size+1,7,none⟩)] rfl i
  rw[show((W.alloc (.cells #[.slice (some ⟨gl,oz,none⟩) xs.length cl,.pointer (some ⟨p,0,none⟩)] 92)).alloc (.cells #[.int .i64 0,.int .i64 0,.int .i64 0,.int .i64 0,.int .i64 0,.int .i64 0,.int .i64 0,.int .i64 0] 82)).heap.size=W.heap.size+2 by simp] at q
  rcases this with rfl|rfl|rfl|rfl|rfl|rfl|rfl|rfl<;>exact q _ rfl)
 have us:((((W.alloc (.cells #[.slice (some ⟨gl,oz,none⟩) xs.length cl,.pointer (some ⟨p,0,none⟩)] 92)).alloc (.cells #[.int .i64 0,.int .i64 0,.int .i64 0,.int .i64 0,.int .i64 0,.int .i64 0,.int .i64 0,.int .i64 0] 82)).alloc (.cells #[.pointer (some ⟨W.heap.size+1,0,none⟩),.pointer (some ⟨W.heap.size+1,1,none⟩),.pointer (some ⟨W.heap.size+1,2,none⟩),.pointer (some ⟨W.heap.size+1,3,none⟩),.pointer (some ⟨W.heap.size+1,4,none⟩),.pointer (some ⟨W.heap.size+1,5,none⟩),.pointer (some ⟨W.heap.size+1,6,none⟩),.pointer (some ⟨W.heap.size+1,7,none⟩)] 90))).heap.size=W.heap.size+3:=by simp
 have MU:=zh (iMust (((W.alloc (.cells #[.slice (some ⟨gl,oz,none⟩) xs.length cl,.pointer (some ⟨p,0,none⟩)] 92)).alloc (.cells #[.int .i64 0,.int .i64 0,.int .i64 0,.int .i64 0,.int .i64 0,.int .i64 0,.int .i64 0,.int .i64 0] 82)).alloc (.cells #[.pointer (some ⟨W.heap.size+1,0,none⟩),.pointer (some ⟨W.heap.size+1,1,none⟩),.pointer (some ⟨W.heap.size+1,2,none⟩),.pointer (some ⟨W.heap.size+1,3,none⟩),.pointer (some ⟨W.heap.size+1,4,none⟩),.pointer (some ⟨W.heap.size+1,5,none⟩),.pointer (some ⟨W.heap.size+1,6,none⟩),.pointer (some ⟨W.heap.size+1,7,none⟩)] 90)) gl cl p w0.heap.size 82 8 (W.heap.size+1) (W.heap.size+2) 8 8 xs s [.int .i64 0,.int .i64 0,.int .i64 0,.int .i64 0,.int .i64 0,.int .i64 0,.int .i64 0,.int .i64 0] ev et hs l0 l1 g (a.below (zu RU).b g) (zu RU).pl (zu TU) (fun i hi=>by
  have:i=0∨i=1∨i=2∨i=3∨i=4∨i=5∨i=6∨i=7:=by omega
  rcases this with rfl|rfl|rfl|rfl|rfl|rfl|rfl|rfl<;>exact⟨0,rfl⟩) (zu PU) (by omega) (by omega) (by omega) (by omega) (by omega) (((zu RU).b.cell (p:=⟨0,0,none⟩) z).trans e) z)
 have GL:=zh (gets_len xs 8 s [])
 have GA:=zh (gets_all xs 8 s [] (by simp))
 have RW:=zh R
 clear a e R TU PU us
 generalize gets xs 8 s []=r at *
 obtain⟨l,s',ok⟩:=r
 go_enter Tryz.func101,Tryz.ntmps101
 go_wp2_with fail
 refine(zu MU).mono ?_
 rintro e u (⟨h1,⟨eu,ee,rfl⟩,h3⟩|⟨h1,rfl,h3,h4,h5⟩)
 ·have b1:=(zu BU)
  have g3:=h3.to (B:=w0.heap.size) (by have:=(zu RW).b.size;have:=b1.size;omega) p0 (by have:=(zu RW).b.size;omega)
  exact⟨rfl,.inl ⟨h1,⟨eu,ee,rfl⟩,(zu RU).b.trans g3⟩⟩
 simp only at h1
 subst h1
 have ll:=(zu GL) rfl
 obtain⟨r0,r1,r2,r3,r4,r5,r6,r7,rfl⟩:=list8 (show l.length=8 from by simpa using ll)
 have GW:=zh (show W.grownBy u (some p) from Gr2.grown (((Gr2.refl W p (W.heap.size+1)).step (zu BU)).trans h3) (by omega))
 have RV:=zh ((zu RW).moved (zu GW) p0 p1 pd pq h4)
 have TV:=zh (show Tg u w0.heap.size 82 8 (W.heap.size+1) [.int .i64 r0,.int .i64 r1,.int .i64 r2,.int .i64 r3,.int .i64 r4,.int .i64 r5,.int .i64 r6,.int .i64 r7] from h5)
 have FA:=zh ((zu GA) rfl)
 have KV:=zh (Kp.grown (zu GW) (fun j hj=>by injection hj with hj;subst hj;exact(zu RW).typP))
 clear ll h3 h4 h5 GL GA MU RU BU GW
 have dl:=(zu TV).lt
 go_wp2_with fail
 have RX:=RV
 have KX:=KV
 have TX:=TV
 clear RV KV TV
 have dl:=(zu TX).lt
 have rl:=(zu RX).ltB
 have rn:=(zu RX).n
 have dD:=(zu RX).bx.lt.2
 have ro:=(zu RX).o.ot
 have e0:u.cell? ⟨W.heap.size+1,0,none⟩=some (.int .i64 r0):=(zu TX).at rfl
 have e1:u.cell? ⟨W.heap.size+1,1,none⟩=some (.int .i64 r1):=(zu TX).at rfl
 have e2:u.cell? ⟨W.heap.size+1,2,none⟩=some (.int .i64 r2):=(zu TX).at rfl
 have e3:u.cell? ⟨W.heap.size+1,3,none⟩=some (.int .i64 r3):=(zu TX).at rfl
 have e4:u.cell? ⟨W.heap.size+1,4,none⟩=some (.int .i64 r4):=(zu TX).at rfl
 have e5:u.cell? ⟨W.heap.size+1,5,none⟩=some (.int .i64 r5):=(zu TX).at rfl
 have e6:u.cell? ⟨W.heap.size+1,6,none⟩=some (.int .i64 r6):=(zu TX).at rfl
 have e7:u.cell? ⟨W.heap.size+1,7,none⟩=some (.int .i64 r7):=(zu TX).at rfl
 have eB:=(zu RX).cellB
 have bc:=(zu RX).bx.c4
 have NW:some (W.heap.size+1)≠(.slice x.ats x.b.ts.length x.ct:Value).ownBlock:=fun e=>by
  have:=(World.ownsRow.lt (zu RW).o.ot _ e.symm).2
  omega
 have K0:u.cell? ⟨B,0,none⟩=some (.pointer (some ⟨D,0,none⟩))∧u.cell? ⟨W.heap.size+1,0,none⟩=some (.int .i64 r0)∧u.cell? ⟨W.heap.size+1,1,none⟩=some (.int .i64 r1)∧u.cell? ⟨W.heap.size+1,2,none⟩=some (.int .i64 r2)∧u.cell? ⟨W.heap.size+1,3,none⟩=some (.int .i64 r3)∧u.cell? ⟨W.heap.size+1,4,none⟩=some (.int .i64 r4)∧u.cell? ⟨W.heap.size+1,5,none⟩=some (.int .i64 r5)∧u.cell? ⟨W.heap.size+1,6,none⟩=some (.int .i64 r6)∧u.cell? ⟨W.heap.size+1,7,none⟩=some (.int .i64 r7):=⟨eB,e0,e1,e2,e3,e4,e5,e6,e7⟩
 have KB:(u.drew.alloc (.cells #[.int .i64 r0,.int .i64 r1,.int .i64 r2,.int .i64 r3,.int .i64 r4,.int .i64 r5,.int .i64 r6,.int .i64 r7] 82)).cell? ⟨B,0,none⟩=some (.pointer (some ⟨D,0,none⟩))∧(u.drew.alloc (.cells #[.int .i64 r0,.int .i64 r1,.int .i64 r2,.int .i64 r3,.int .i64 r4,.int .i64 r5,.int .i64 r6,.int .i64 r7] 82)).cell? ⟨W.heap.size+1,0,none⟩=some (.int .i64 r0)∧(u.drew.alloc (.cells #[.int .i64 r0,.int .i64 r1,.int .i64 r2,.int .i64 r3,.int .i64 r4,.int .i64 r5,.int .i64 r6,.int .i64 r7] 82)).cell? ⟨W.heap.size+1,1,none⟩=some (.int .i64 r1)∧(u.drew.alloc (.cells #[.int .i64 r0,.int .i64 r1,.int .i64 r2,.int .i64 r3,.int .i64 r4,.int .i64 r5,.int .i64 r6,.int .i64 r7] 82)).cell? ⟨W.heap.size+1,2,none⟩=some (.int .i64 r2)∧(u.drew.alloc (.cells #[.int .i64 r0,.int .i64 r1,.int .i64 r2,.int .i64 r3,.int .i64 r4,.int .i64 r5,.int .i64 r6,.int .i64 r7] 82)).cell? ⟨W.heap.size+1,3,none⟩=some (.int .i64 r3)∧(u.drew.alloc (.cells #[.int .i64 r0,.int .i64 r1,.int .i64 r2,.int .i64 r3,.int .i64 r4,.int .i64 r5,.int .i64 r6,.int .i64 r7] 82)).cell? ⟨W.heap.size+1,4,none⟩=some (.int .i64 r4)∧(u.drew.alloc (.cells #[.int .i64 r0,.int .i64 r1,.int .i64 r2,.int .i64 r3,.int .i64 r4,.int .i64 r5,.int .i64 r6,.int .i64 r7] 82)).cell? ⟨W.heap.size+1,5,none⟩=some (.int .i64 r5)∧(u.drew.alloc (.cells #[.int .i64 r0,.int .i64 r1,.int .i64 r2,.int .i64 r3,.int .i64 r4,.int .i64 r5,.int .i64 r6,.int .i64 r7] 82)).cell? ⟨W.heap.size+1,6,none⟩=some (.int .i64 r6)∧(u.drew.alloc (.cells #[.int .i64 r0,.int .i64 r1,.int .i64 r2,.int .i64 r3,.int .i64 r4,.int .i64 r5,.int .i64 r6,.int .i64 r7] 82)).cell? ⟨W.heap.size+1,7,none⟩=some (.int .i64 r7):=⟨((one_more u.drew (.cells #[.int .i64 r0,.int .i64 r1,.int .i64 r2,.int .i64 r3,.int .i64 r4,.int .i64 r5,.int .i64 r6,.int .i64 r7] 82)).cell (p:=⟨B,0,none⟩) rl).trans eB,((one_more u.drew (.cells #[.int .i64 r0,.int .i64 r1,.int .i64 r2,.int .i64 r3,.int .i64 r4,.int .i64 r5,.int .i64 r6,.int .i64 r7] 82)).cell (p:=⟨W.heap.size+1,0,none⟩) dl.2).trans e0,((one_more u.drew (.cells #[.int .i64 r0,.int .i64 r1,.int .i64 r2,.int .i64 r3,.int .i64 r4,.int .i64 r5,.int .i64 r6,.int .i64 r7] 82)).cell (p:=⟨W.heap.size+1,1,none⟩) dl.2).trans e1,((one_more u.drew (.cells #[.int .i64 r0,.int .i64 r1,.int .i64 r2,.int .i64 r3,.int .i64 r4,.int .i64 r5,.int .i64 r6,.int .i64 r7] 82)).cell (p:=⟨W.heap.size+1,2,none⟩) dl.2).trans e2,((one_more u.drew (.cells #[.int .i64 r0,.int .i64 r1,.int .i64 r2,.int .i64 r3,.int .i64 r4,.int .i64 r5,.int .i64 r6,.int .i64 r7] 82)).cell (p:=⟨W.heap.size+1,3,none⟩) dl.2).trans e3,((one_more u.drew (.cells #[.int .i64 r0,.int .i64 r1,.int .i64 r2,.int .i64 r3,.int .i64 r4,.int .i64 r5,.int .i64 r6,.int .i64 r7] 82)).cell (p:=⟨W.heap.size+1,4,none⟩) dl.2).trans e4,((one_more u.drew (.cells #[.int .i64 r0,.int .i64 r1,.int .i64 r2,.int .i64 r3,.int .i64 r4,.int .i64 r5,.int .i64 r6,.int .i64 r7] 82)).cell (p:=⟨W.heap.size+1,5,none⟩) dl.2).trans e5,((one_more u.drew (.cells #[.int .i64 r0,.int .i64 r1,.int .i64 r2,.int .i64 r3,.int .i64 r4,.int .i64 r5,.int .i64 r6,.int .i64 r7] 82)).cell (p:=⟨W.heap.size+1,6,none⟩) dl.2).trans e6,((one_more u.drew (.cells #[.int .i64 r0,.int .i64 r1,.int .i64 r2,.int .i64 r3,.int .i64 r4,.int .i64 r5,.int .i64 r6,.int .i64 r7] 82)).cell (p:=⟨W.heap.size+1,7,none⟩) dl.2).trans e7⟩
 have bcD:u.drew.cell? ⟨D,4,none⟩=some (.slice x.ats x.b.ts.length x.ct):=bc
 have bcA:(u.alloc (.cells #[.int .i64 r0,.int .i64 r1,.int .i64 r2,.int .i64 r3,.int .i64 r4,.int .i64 r5,.int .i64 r6,.int .i64 r7] 82)).cell? ⟨D,4,none⟩=some (.slice x.ats x.b.ts.length x.ct):=((one_more u.drew (.cells #[.int .i64 r0,.int .i64 r1,.int .i64 r2,.int .i64 r3,.int .i64 r4,.int .i64 r5,.int .i64 r6,.int .i64 r7] 82)).cell (p:=⟨D,4,none⟩) dD).trans bc
 refine wp_region_held_drew (S:=(fun w'=>w'.cell? ⟨B,0,none⟩=some (.pointer (some ⟨D,0,none⟩))∧w'.cell? ⟨W.heap.size+1,0,none⟩=some (.int .i64 r0)∧w'.cell? ⟨W.heap.size+1,1,none⟩=some (.int .i64 r1)∧w'.cell? ⟨W.heap.size+1,2,none⟩=some (.int .i64 r2)∧w'.cell? ⟨W.heap.size+1,3,none⟩=some (.int .i64 r3)∧w'.cell? ⟨W.heap.size+1,4,none⟩=some (.int .i64 r4)∧w'.cell? ⟨W.heap.size+1,5,none⟩=some (.int .i64 r5)∧w'.cell? ⟨W.heap.size+1,6,none⟩=some (.int .i64 r6)∧w'.cell? ⟨W.heap.size+1,7,none⟩=some (.int .i64 r7))) (by kernel_rfl) K0 (fun hHeld=>?_)
 refine tk 0 oC40 (.pointer (some ⟨D,0,none⟩)) rfl (by kernel_rfl) (fun _ _ _ h=>h) (by rfl) (fun w hSw=>?_) hHeld ?_
 ·(try dsimp only at hSw)
  unfold oC40
  go_simp
 try simp only[oC40,Act.put,zA,zB,zC]
 refine tk 1 oC41 (.pointer (some ⟨D,0,none⟩)) rfl (by kernel_rfl) (fun _ _ _ h=>h) (by rfl) (fun w hSw=>?_) hHeld ?_
 ·(try dsimp only at hSw)
  unfold oC41
  go_simp
 try simp only[oC41,Act.put,zA,zB,zC]
 refine tk 2 oC42 (.pointer (some ⟨D,0,none⟩)) rfl (by kernel_rfl) (fun _ _ _ h=>h) (by rfl) (fun w hSw=>?_) hHeld ?_
 ·(try dsimp only at hSw)
  unfold oC42
  go_simp
 try simp only[oC42,Act.put,zA,zB,zC]
 refine tk 3 oC43 (.pointer (some ⟨D,4,none⟩)) rfl (by kernel_rfl) (fun _ _ _ h=>h) (by rfl) (fun w hSw=>?_) hHeld ?_
 ·(try dsimp only at hSw)
  unfold oC43
  go_simp
 try simp only[oC43,Act.put,zA,zB,zC]
 refine tk 5 oC45 (.agg #[.int .i64 r0,.int .i64 r1,.int .i64 r2,.int .i64 r3,.int .i64 r4,.int .i64 r5,.int .i64 r6,.int .i64 r7]) rfl (by kernel_rfl) (fun _ _ _ h=>h) (by rfl) (fun w hSw=>?_) hHeld ?_
 ·(try dsimp only at hSw)
  unfold oC45
  go_simp
 try simp only[oC45,Act.put,zA,zB,zC]
 refine wpAnyH_ready (rs:=[4,6]) (by kernel_rfl) (by simp) ?_
 refine AllReadyH.cons (o:=oC44) rfl (fun K hK=>?_) (AllReadyH.cons (o:=oC46) rfl (fun K hK=>?_) AllReadyH.nil)
 ·unfold oC44
  go_simp
  refine hK.out _ _ K0 (fun hHeld=>?_)
  clear hK K
  try simp only[oC44,Act.put,zA,zB,zC]
  refine wpAnyH_ready (rs:=[6]) (by kernel_rfl) (by simp) ?_
  refine AllReadyH.cons (o:=oC46) rfl (fun K hK=>?_) AllReadyH.nil
  unfold oC46
  go_simp
  refine hK.out _ _ KB (fun hHeld=>?_)
  clear hK K
  try simp only[oC46,Act.put,zA,zB,zC]
  refine wpAnyH_ready (rs:=[7]) (by kernel_rfl) (by simp) ?_
  refine AllReadyH.cons (o:=oC47) rfl (fun K hK=>?_) AllReadyH.nil
  refine step_app (u.drew.alloc (.cells #[.int .i64 r0,.int .i64 r1,.int .i64 r2,.int .i64 r3,.int .i64 r4,.int .i64 r5,.int .i64 r6,.int .i64 r7] 82)) (by rfl) _ _ 30 82 (by rfl) (.agg #[.int .i64 0,.int .i64 0,.int .i64 0,.int .i64 0,.int .i64 0,.int .i64 0,.int .i64 0,.int .i64 0]) 8 64 Tryz.underlying30 info_ts rfl (by decide) (by decide) N (.slice x.ats x.b.ts.length x.ct) x.b.ts.length (Tup8.flat8 x.b.ts) u.drew.heap.size [.int .i64 r0,.int .i64 r1,.int .i64 r2,.int .i64 r3,.int .i64 r4,.int .i64 r5,.int .i64 r6,.int .i64 r7] (by rfl) (by rfl) (row_step (W:=u.drew) ro (one_more u.drew (.cells #[.int .i64 r0,.int .i64 r1,.int .i64 r2,.int .i64 r3,.int .i64 r4,.int .i64 r5,.int .i64 r6,.int .i64 r7] 82))) rfl (litm u.drew _ _ _ (by rfl)) (by simp[Value.oneCell']) (by omega) (Nat.le_trans (show N≤u.drew.heap.size from rn) (by simp)) ?_
  intro g9 c9 u9 o9 gr9
  have BL:∀j,(.slice x.ats x.b.ts.length x.ct:Value).ownBlock=some j→N≤j:=fun j hj=>(World.ownsRow.lt ro j hj).1
  have BM:∀j,(.slice x.ats x.b.ts.length x.ct:Value).ownBlock=some j→j<u.heap.size:=fun j hj=>(World.ownsRow.lt ro j hj).2
  have NE:=NW
  have RA:=zh ((show Rs w0 u.drew p D B N s' x from rs_drew (zu RX)).step (one_more u.drew (.cells #[.int .i64 r0,.int .i64 r1,.int .i64 r2,.int .i64 r3,.int .i64 r4,.int .i64 r5,.int .i64 r6,.int .i64 r7] 82)))
  have R9:=zh (show Pl u9 w0.heap.size p s'∧Box u9 w0.heap.size D (.slice x.aa x.b.ac.length x.ca) (.slice x.ai x.b.ic.length x.ci) (.slice x.ab x.b.bs.length x.cb) (.slice x.al x.b.ls.length x.cl) (.slice x.ats x.b.ts.length x.ct) (.int .i64 x.b.lot) from⟨Ints.Own.kept (zu RA).pl gr9 (fun e=>by have:=BL _ e.symm;omega),(zu RA).bx.kept gr9 (fun e=>by have:=BL _ e.symm;omega)⟩)
  have O9:=zh o9
  have OO:=zh (show u9.ownsRow N 75 2 (.slice x.aa x.b.ac.length x.ca) x.b.ac.length (Pairs.flat x.b.ac)∧u9.ownsRow N 76 2 (.slice x.ai x.b.ic.length x.ci) x.b.ic.length (Pairs.flat x.b.ic)∧u9.ownsRow N 78 3 (.slice x.ab x.b.bs.length x.cb) x.b.bs.length (Triples.flat3 x.b.bs)∧u9.ownsRow N 80 5 (.slice x.al x.b.ls.length x.cl) x.b.ls.length (Tup5.flat5 x.b.ls) from⟨World.ownsRow.kept (zu RA).o.oa gr9 (row_ne (zu RA).o.oa (zu RA).o.ot (by decide)),World.ownsRow.kept (zu RA).o.oi gr9 (row_ne (zu RA).o.oi (zu RA).o.ot (by decide)),World.ownsRow.kept (zu RA).o.ob gr9 (row_ne (zu RA).o.ob (zu RA).o.ot (by decide)),World.ownsRow.kept (zu RA).o.ol gr9 (row_ne (zu RA).o.ol (zu RA).o.ot (by decide))⟩)
  have RR:=zh (show u9.heap[B]?=some (.cells #[.pointer (some ⟨D,0,none⟩)] 124 (0,0))∧Below w0.heap.size w0 u9∧N≤u9.heap.size from⟨(gr9.block B (by have:=(zu RA).ltB;exact this) (fun e=>by have:=BL _ e.symm;omega)).trans (zu RA).q,(zu RA).b.grown gr9 (zu RA).b.size (fun j hj=>by have:=BL _ hj;omega),Nat.le_trans (zu RA).n gr9.size⟩)
  have KA:=zh (show Kp W u9 from((zu KX).trans (Kp.drew (Kp.below (one_more u.drew (.cells #[.int .i64 r0,.int .i64 r1,.int .i64 r2,.int .i64 r3,.int .i64 r4,.int .i64 r5,.int .i64 r6,.int .i64 r7] 82))))).trans (Kp.grown gr9 (fun j hj=>by obtain⟨c,hc⟩:=row_typ (zu RA).o.ot j hj;exact⟨_,hc,rfl⟩)))
  have fr9:u9.frozen? ⟨D,4,none⟩=false:=(zu R9).2.free 4
  have bc9:=(zu R9).2.c4
  have SB:=zh ((zu R9).2.set4 (.slice (some ⟨g9,0,none⟩) (x.b.ts.length+1) c9))
  have KC:u9.cell? ⟨B,0,none⟩=some (.pointer (some ⟨D,0,none⟩))∧u9.cell? ⟨W.heap.size+1,0,none⟩=some (.int .i64 r0)∧u9.cell? ⟨W.heap.size+1,1,none⟩=some (.int .i64 r1)∧u9.cell? ⟨W.heap.size+1,2,none⟩=some (.int .i64 r2)∧u9.cell? ⟨W.heap.size+1,3,none⟩=some (.int .i64 r3)∧u9.cell? ⟨W.heap.size+1,4,none⟩=some (.int .i64 r4)∧u9.cell? ⟨W.heap.size+1,5,none⟩=some (.int .i64 r5)∧u9.cell? ⟨W.heap.size+1,6,none⟩=some (.int .i64 r6)∧u9.cell? ⟨W.heap.size+1,7,none⟩=some (.int .i64 r7):=⟨gr9.cell KB.1 (fun e=>by have:=BL _ e.symm;simp only at this;omega),gr9.cell KB.2.1 (fun e=>by exact NE e),gr9.cell KB.2.2.1 (fun e=>by exact NE e),gr9.cell KB.2.2.2.1 (fun e=>by exact NE e),gr9.cell KB.2.2.2.2.1 (fun e=>by exact NE e),gr9.cell KB.2.2.2.2.2.1 (fun e=>by exact NE e),gr9.cell KB.2.2.2.2.2.2.1 (fun e=>by exact NE e),gr9.cell KB.2.2.2.2.2.2.2.1 (fun e=>by exact NE e),gr9.cell KB.2.2.2.2.2.2.2.2 (fun e=>by exact NE e)⟩
  have KD:(u9.setCell ⟨D,4,none⟩ (.slice (some ⟨g9,0,none⟩) (x.b.ts.length+1) c9)).cell? ⟨B,0,none⟩=some (.pointer (some ⟨D,0,none⟩))∧(u9.setCell ⟨D,4,none⟩ (.slice (some ⟨g9,0,none⟩) (x.b.ts.length+1) c9)).cell? ⟨W.heap.size+1,0,none⟩=some (.int .i64 r0)∧(u9.setCell ⟨D,4,none⟩ (.slice (some ⟨g9,0,none⟩) (x.b.ts.length+1) c9)).cell? ⟨W.heap.size+1,1,none⟩=some (.int .i64 r1)∧(u9.setCell ⟨D,4,none⟩ (.slice (some ⟨g9,0,none⟩) (x.b.ts.length+1) c9)).cell? ⟨W.heap.size+1,2,none⟩=some (.int .i64 r2)∧(u9.setCell ⟨D,4,none⟩ (.slice (some ⟨g9,0,none⟩) (x.b.ts.length+1) c9)).cell? ⟨W.heap.size+1,3,none⟩=some (.int .i64 r3)∧(u9.setCell ⟨D,4,none⟩ (.slice (some ⟨g9,0,none⟩) (x.b.ts.length+1) c9)).cell? ⟨W.heap.size+1,4,none⟩=some (.int .i64 r4)∧(u9.setCell ⟨D,4,none⟩ (.slice (some ⟨g9,0,none⟩) (x.b.ts.length+1) c9)).cell? ⟨W.heap.size+1,5,none⟩=some (.int .i64 r5)∧(u9.setCell ⟨D,4,none⟩ (.slice (some ⟨g9,0,none⟩) (x.b.ts.length+1) c9)).cell? ⟨W.heap.size+1,6,none⟩=some (.int .i64 r6)∧(u9.setCell ⟨D,4,none⟩ (.slice (some ⟨g9,0,none⟩) (x.b.ts.length+1) c9)).cell? ⟨W.heap.size+1,7,none⟩=some (.int .i64 r7):=⟨(cell_grown (zu SB).2 0 (g:=B) (by have:=(zu RA).ltB;have:=gr9.size;omega) (fun e=>dq e.symm)).trans KC.1,(cell_grown (zu SB).2 0 (g:=W.heap.size+1) (by have:=gr9.size;simp at this;omega) (by omega)).trans KC.2.1,(cell_grown (zu SB).2 1 (g:=W.heap.size+1) (by have:=gr9.size;simp at this;omega) (by omega)).trans KC.2.2.1,(cell_grown (zu SB).2 2 (g:=W.heap.size+1) (by have:=gr9.size;simp at this;omega) (by omega)).trans KC.2.2.2.1,(cell_grown (zu SB).2 3 (g:=W.heap.size+1) (by have:=gr9.size;simp at this;omega) (by omega)).trans KC.2.2.2.2.1,(cell_grown (zu SB).2 4 (g:=W.heap.size+1) (by have:=gr9.size;simp at this;omega) (by omega)).trans KC.2.2.2.2.2.1,(cell_grown (zu SB).2 5 (g:=W.heap.size+1) (by have:=gr9.size;simp at this;omega) (by omega)).trans KC.2.2.2.2.2.2.1,(cell_grown (zu SB).2 6 (g:=W.heap.size+1) (by have:=gr9.size;simp at this;omega) (by omega)).trans KC.2.2.2.2.2.2.2.1,(cell_grown (zu SB).2 7 (g:=W.heap.size+1) (by have:=gr9.size;simp at this;omega) (by omega)).trans KC.2.2.2.2.2.2.2.2⟩
  clear o9
  refine hK.out _ _ KC (fun hHeld=>?_)
  clear hK K
  try simp only[oC47,Act.put,zA,zB,zC]
  refine tk 8 oC48 (.pointer (some ⟨D,0,none⟩)) rfl (by kernel_rfl) (fun _ _ _ h=>h) (by rfl) (fun w hSw=>?_) hHeld ?_
  ·(try dsimp only at hSw)
   unfold oC48
   go_simp
  try simp only[oC48,Act.put,zA,zB,zC]
  refine tk 9 oC49 (.pointer (some ⟨D,4,none⟩)) rfl (by kernel_rfl) (fun _ _ _ h=>h) (by rfl) (fun w hSw=>?_) hHeld ?_
  ·(try dsimp only at hSw)
   unfold oC49
   go_simp
  try simp only[oC49,Act.put,zA,zB,zC]
  refine wpAnyH_ready (rs:=[10]) (by kernel_rfl) (by simp) ?_
  refine AllReadyH.cons (o:=oC410) rfl (fun K hK=>?_) AllReadyH.nil
  unfold oC410
  go_simp
  refine hK.out _ _ KD (fun hHeld=>?_)
  clear hK K
  try simp only[oC410,Act.put,zA,zB,zC]
  refine wpAnyH_done (by kernel_rfl) ?_ _
  clear K0 KB KC KD bc bcD bcA bc9 fr9 eB e0 e1 e2 e3 e4 e5 e6 e7
  go_wp2
  go_end0
  obtain⟨sb,sg⟩:=zu SB
  obtain⟨h0,h1,h2,h3⟩:=zu OO
  obtain⟨q9,b9,n9⟩:=zu RR
  have ln:(x.b.ts++[r8 [r0,r1,r2,r3,r4,r5,r6,r7]]).length=x.b.ts.length+1:=by simp
  refine .inr ⟨rfl,rfl,(zu KA).trans (Kp.grown sg (fun j hj=>by injection hj with hj;subst hj;obtain⟨c,hc⟩:=row_typ (zu R9).2 _ rfl;exact⟨_,hc,rfl⟩)),(⟨x.aa,x.ca,x.ai,x.ci,x.ab,x.cb,x.al,x.cl,some ⟨g9,0,none⟩,c9,⟨x.b.ac,x.b.ic,x.b.bs,x.b.ls,x.b.ts++[r8 [r0,r1,r2,r3,r4,r5,r6,r7]],x.b.lot⟩⟩:Ix),rfl,⟨Ints.Own.kept (zu R9).1 sg (by simpa using pd),?_,⟨row_kept h0 sg d1,row_kept h1 sg d1,row_kept h2 sg d1,row_kept h3 sg d1,?_⟩,(sg.block B (by have:=Array.getElem?_eq_some_iff.1 q9;exact this.1) (fun e=>dq (by injection e with e;exact e.symm))).trans q9,b9.grown sg b9.size (fun j hj=>by injection hj with hj;omega),Nat.le_trans n9 sg.size⟩⟩
  ·show Box _ _ _ (.slice x.aa x.b.ac.length x.ca) (.slice x.ai x.b.ic.length x.ci) (.slice x.ab x.b.bs.length x.cb) (.slice x.al x.b.ls.length x.cl) (.slice (some ⟨g9,0,none⟩) (x.b.ts++[r8 [r0,r1,r2,r3,r4,r5,r6,r7]]).length c9) (.int .i64 x.b.lot)
   rw[ln]
   exact sb
  ·show World.ownsRow _ _ _ _ _ _ _
   have o:=row_kept (zu O9) sg d1
   simp only[ln]
   rw[show Tup8.flat8 (x.b.ts++[r8 [r0,r1,r2,r3,r4,r5,r6,r7]])=Tup8.flat8 x.b.ts++[.int .i64 r0,.int .i64 r1,.int .i64 r2,.int .i64 r3,.int .i64 r4,.int .i64 r5,.int .i64 r6,.int .i64 r7] from flat_e _ _ _ _ _ _ _ _ _]
   exact o
 ·unfold oC46
  go_simp
  refine hK.out _ _ KB (fun hHeld=>?_)
  clear hK K
  try simp only[oC46,Act.put,zA,zB,zC]
  refine wpAnyH_ready (rs:=[4]) (by kernel_rfl) (by simp) ?_
  refine AllReadyH.cons (o:=oC44) rfl (fun K hK=>?_) AllReadyH.nil
  unfold oC44
  go_simp
  refine hK.out _ _ KB (fun hHeld=>?_)
  clear hK K
  try simp only[oC44,Act.put,zA,zB,zC]
  refine wpAnyH_ready (rs:=[7]) (by kernel_rfl) (by simp) ?_
  refine AllReadyH.cons (o:=oC47) rfl (fun K hK=>?_) AllReadyH.nil
  refine step_app (u.drew.alloc (.cells #[.int .i64 r0,.int .i64 r1,.int .i64 r2,.int .i64 r3,.int .i64 r4,.int .i64 r5,.int .i64 r6,.int .i64 r7] 82)) (by rfl) _ _ 30 82 (by rfl) (.agg #[.int .i64 0,.int .i64 0,.int .i64 0,.int .i64 0,.int .i64 0,.int .i64 0,.int .i64 0,.int .i64 0]) 8 64 Tryz.underlying30 info_ts rfl (by decide) (by decide) N (.slice x.ats x.b.ts.length x.ct) x.b.ts.length (Tup8.flat8 x.b.ts) u.drew.heap.size [.int .i64 r0,.int .i64 r1,.int .i64 r2,.int .i64 r3,.int .i64 r4,.int .i64 r5,.int .i64 r6,.int .i64 r7] (by rfl) (by rfl) (row_step (W:=u.drew) ro (one_more u.drew (.cells #[.int .i64 r0,.int .i64 r1,.int .i64 r2,.int .i64 r3,.int .i64 r4,.int .i64 r5,.int .i64 r6,.int .i64 r7] 82))) rfl (litm u.drew _ _ _ (by rfl)) (by simp[Value.oneCell']) (by omega) (Nat.le_trans (show N≤u.drew.heap.size from rn) (by simp)) ?_
  intro g9 c9 u9 o9 gr9
  have BL:∀j,(.slice x.ats x.b.ts.length x.ct:Value).ownBlock=some j→N≤j:=fun j hj=>(World.ownsRow.lt ro j hj).1
  have BM:∀j,(.slice x.ats x.b.ts.length x.ct:Value).ownBlock=some j→j<u.heap.size:=fun j hj=>(World.ownsRow.lt ro j hj).2
  have NE:=NW
  have RA:=zh ((show Rs w0 u.drew p D B N s' x from rs_drew (zu RX)).step (one_more u.drew (.cells #[.int .i64 r0,.int .i64 r1,.int .i64 r2,.int .i64 r3,.int .i64 r4,.int .i64 r5,.int .i64 r6,.int .i64 r7] 82)))
  have R9:=zh (show Pl u9 w0.heap.size p s'∧Box u9 w0.heap.size D (.slice x.aa x.b.ac.length x.ca) (.slice x.ai x.b.ic.length x.ci) (.slice x.ab x.b.bs.length x.cb) (.slice x.al x.b.ls.length x.cl) (.slice x.ats x.b.ts.length x.ct) (.int .i64 x.b.lot) from⟨Ints.Own.kept (zu RA).pl gr9 (fun e=>by have:=BL _ e.symm;omega),(zu RA).bx.kept gr9 (fun e=>by have:=BL _ e.symm;omega)⟩)
  have O9:=zh o9
  have OO:=zh (show u9.ownsRow N 75 2 (.slice x.aa x.b.ac.length x.ca) x.b.ac.length (Pairs.flat x.b.ac)∧u9.ownsRow N 76 2 (.slice x.ai x.b.ic.length x.ci) x.b.ic.length (Pairs.flat x.b.ic)∧u9.ownsRow N 78 3 (.slice x.ab x.b.bs.length x.cb) x.b.bs.length (Triples.flat3 x.b.bs)∧u9.ownsRow N 80 5 (.slice x.al x.b.ls.length x.cl) x.b.ls.length (Tup5.flat5 x.b.ls) from⟨World.ownsRow.kept (zu RA).o.oa gr9 (row_ne (zu RA).o.oa (zu RA).o.ot (by decide)),World.ownsRow.kept (zu RA).o.oi gr9 (row_ne (zu RA).o.oi (zu RA).o.ot (by decide)),World.ownsRow.kept (zu RA).o.ob gr9 (row_ne (zu RA).o.ob (zu RA).o.ot (by decide)),World.ownsRow.kept (zu RA).o.ol gr9 (row_ne (zu RA).o.ol (zu RA).o.ot (by decide))⟩)
  have RR:=zh (show u9.heap[B]?=some (.cells #[.pointer (some ⟨D,0,none⟩)] 124 (0,0))∧Below w0.heap.size w0 u9∧N≤u9.heap.size from⟨(gr9.block B (by have:=(zu RA).ltB;exact this) (fun e=>by have:=BL _ e.symm;omega)).trans (zu RA).q,(zu RA).b.grown gr9 (zu RA).b.size (fun j hj=>by have:=BL _ hj;omega),Nat.le_trans (zu RA).n gr9.size⟩)
  have KA:=zh (show Kp W u9 from((zu KX).trans (Kp.drew (Kp.below (one_more u.drew (.cells #[.int .i64 r0,.int .i64 r1,.int .i64 r2,.int .i64 r3,.int .i64 r4,.int .i64 r5,.int .i64 r6,.int .i64 r7] 82))))).trans (Kp.grown gr9 (fun j hj=>by obtain⟨c,hc⟩:=row_typ (zu RA).o.ot j hj;exact⟨_,hc,rfl⟩)))
  have fr9:u9.frozen? ⟨D,4,none⟩=false:=(zu R9).2.free 4
  have bc9:=(zu R9).2.c4
  have SB:=zh ((zu R9).2.set4 (.slice (some ⟨g9,0,none⟩) (x.b.ts.length+1) c9))
  have KC:u9.cell? ⟨B,0,none⟩=some (.pointer (some ⟨D,0,none⟩))∧u9.cell? ⟨W.heap.size+1,0,none⟩=some (.int .i64 r0)∧u9.cell? ⟨W.heap.size+1,1,none⟩=some (.int .i64 r1)∧u9.cell? ⟨W.heap.size+1,2,none⟩=some (.int .i64 r2)∧u9.cell? ⟨W.heap.size+1,3,none⟩=some (.int .i64 r3)∧u9.cell? ⟨W.heap.size+1,4,none⟩=some (.int .i64 r4)∧u9.cell? ⟨W.heap.size+1,5,none⟩=some (.int .i64 r5)∧u9.cell? ⟨W.heap.size+1,6,none⟩=some (.int .i64 r6)∧u9.cell? ⟨W.heap.size+1,7,none⟩=some (.int .i64 r7):=⟨gr9.cell KB.1 (fun e=>by have:=BL _ e.symm;simp only at this;omega),gr9.cell KB.2.1 (fun e=>by exact NE e),gr9.cell KB.2.2.1 (fun e=>by exact NE e),gr9.cell KB.2.2.2.1 (fun e=>by exact NE e),gr9.cell KB.2.2.2.2.1 (fun e=>by exact NE e),gr9.cell KB.2.2.2.2.2.1 (fun e=>by exact NE e),gr9.cell KB.2.2.2.2.2.2.1 (fun e=>by exact NE e),gr9.cell KB.2.2.2.2.2.2.2.1 (fun e=>by exact NE e),gr9.cell KB.2.2.2.2.2.2.2.2 (fun e=>by exact NE e)⟩
  have KD:(u9.setCell ⟨D,4,none⟩ (.slice (some ⟨g9,0,none⟩) (x.b.ts.length+1) c9)).cell? ⟨B,0,none⟩=some (.pointer (some ⟨D,0,none⟩))∧(u9.setCell ⟨D,4,none⟩ (.slice (some ⟨g9,0,none⟩) (x.b.ts.length+1) c9)).cell? ⟨W.heap.size+1,0,none⟩=some (.int .i64 r0)∧(u9.setCell ⟨D,4,none⟩ (.slice (some ⟨g9,0,none⟩) (x.b.ts.length+1) c9)).cell? ⟨W.heap.size+1,1,none⟩=some (.int .i64 r1)∧(u9.setCell ⟨D,4,none⟩ (.slice (some ⟨g9,0,none⟩) (x.b.ts.length+1) c9)).cell? ⟨W.heap.size+1,2,none⟩=some (.int .i64 r2)∧(u9.setCell ⟨D,4,none⟩ (.slice (some ⟨g9,0,none⟩) (x.b.ts.length+1) c9)).cell? ⟨W.heap.size+1,3,none⟩=some (.int .i64 r3)∧(u9.setCell ⟨D,4,none⟩ (.slice (some ⟨g9,0,none⟩) (x.b.ts.length+1) c9)).cell? ⟨W.heap.size+1,4,none⟩=some (.int .i64 r4)∧(u9.setCell ⟨D,4,none⟩ (.slice (some ⟨g9,0,none⟩) (x.b.ts.length+1) c9)).cell? ⟨W.heap.size+1,5,none⟩=some (.int .i64 r5)∧(u9.setCell ⟨D,4,none⟩ (.slice (some ⟨g9,0,none⟩) (x.b.ts.length+1) c9)).cell? ⟨W.heap.size+1,6,none⟩=some (.int .i64 r6)∧(u9.setCell ⟨D,4,none⟩ (.slice (some ⟨g9,0,none⟩) (x.b.ts.length+1) c9)).cell? ⟨W.heap.size+1,7,none⟩=some (.int .i64 r7):=⟨(cell_grown (zu SB).2 0 (g:=B) (by have:=(zu RA).ltB;have:=gr9.size;omega) (fun e=>dq e.symm)).trans KC.1,(cell_grown (zu SB).2 0 (g:=W.heap.size+1) (by have:=gr9.size;simp at this;omega) (by omega)).trans KC.2.1,(cell_grown (zu SB).2 1 (g:=W.heap.size+1) (by have:=gr9.size;simp at this;omega) (by omega)).trans KC.2.2.1,(cell_grown (zu SB).2 2 (g:=W.heap.size+1) (by have:=gr9.size;simp at this;omega) (by omega)).trans KC.2.2.2.1,(cell_grown (zu SB).2 3 (g:=W.heap.size+1) (by have:=gr9.size;simp at this;omega) (by omega)).trans KC.2.2.2.2.1,(cell_grown (zu SB).2 4 (g:=W.heap.size+1) (by have:=gr9.size;simp at this;omega) (by omega)).trans KC.2.2.2.2.2.1,(cell_grown (zu SB).2 5 (g:=W.heap.size+1) (by have:=gr9.size;simp at this;omega) (by omega)).trans KC.2.2.2.2.2.2.1,(cell_grown (zu SB).2 6 (g:=W.heap.size+1) (by have:=gr9.size;simp at this;omega) (by omega)).trans KC.2.2.2.2.2.2.2.1,(cell_grown (zu SB).2 7 (g:=W.heap.size+1) (by have:=gr9.size;simp at this;omega) (by omega)).trans KC.2.2.2.2.2.2.2.2⟩
  clear o9
  refine hK.out _ _ KC (fun hHeld=>?_)
  clear hK K
  try simp only[oC47,Act.put,zA,zB,zC]
  refine tk 8 oC48 (.pointer (some ⟨D,0,none⟩)) rfl (by kernel_rfl) (fun _ _ _ h=>h) (by rfl) (fun w hSw=>?_) hHeld ?_
  ·(try dsimp only at hSw)
   unfold oC48
   go_simp
  try simp only[oC48,Act.put,zA,zB,zC]
  refine tk 9 oC49 (.pointer (some ⟨D,4,none⟩)) rfl (by kernel_rfl) (fun _ _ _ h=>h) (by rfl) (fun w hSw=>?_) hHeld ?_
  ·(try dsimp only at hSw)
   unfold oC49
   go_simp
  try simp only[oC49,Act.put,zA,zB,zC]
  refine wpAnyH_ready (rs:=[10]) (by kernel_rfl) (by simp) ?_
  refine AllReadyH.cons (o:=oC410) rfl (fun K hK=>?_) AllReadyH.nil
  unfold oC410
  go_simp
  refine hK.out _ _ KD (fun hHeld=>?_)
  clear hK K
  try simp only[oC410,Act.put,zA,zB,zC]
  refine wpAnyH_done (by kernel_rfl) ?_ _
  clear K0 KB KC KD bc bcD bcA bc9 fr9 eB e0 e1 e2 e3 e4 e5 e6 e7
  go_wp2
  go_end0
  obtain⟨sb,sg⟩:=zu SB
  obtain⟨h0,h1,h2,h3⟩:=zu OO
  obtain⟨q9,b9,n9⟩:=zu RR
  have ln:(x.b.ts++[r8 [r0,r1,r2,r3,r4,r5,r6,r7]]).length=x.b.ts.length+1:=by simp
  refine .inr ⟨rfl,rfl,(zu KA).trans (Kp.grown sg (fun j hj=>by injection hj with hj;subst hj;obtain⟨c,hc⟩:=row_typ (zu R9).2 _ rfl;exact⟨_,hc,rfl⟩)),(⟨x.aa,x.ca,x.ai,x.ci,x.ab,x.cb,x.al,x.cl,some ⟨g9,0,none⟩,c9,⟨x.b.ac,x.b.ic,x.b.bs,x.b.ls,x.b.ts++[r8 [r0,r1,r2,r3,r4,r5,r6,r7]],x.b.lot⟩⟩:Ix),rfl,⟨Ints.Own.kept (zu R9).1 sg (by simpa using pd),?_,⟨row_kept h0 sg d1,row_kept h1 sg d1,row_kept h2 sg d1,row_kept h3 sg d1,?_⟩,(sg.block B (by have:=Array.getElem?_eq_some_iff.1 q9;exact this.1) (fun e=>dq (by injection e with e;exact e.symm))).trans q9,b9.grown sg b9.size (fun j hj=>by injection hj with hj;omega),Nat.le_trans n9 sg.size⟩⟩
  ·show Box _ _ _ (.slice x.aa x.b.ac.length x.ca) (.slice x.ai x.b.ic.length x.ci) (.slice x.ab x.b.bs.length x.cb) (.slice x.al x.b.ls.length x.cl) (.slice (some ⟨g9,0,none⟩) (x.b.ts++[r8 [r0,r1,r2,r3,r4,r5,r6,r7]]).length c9) (.int .i64 x.b.lot)
   rw[ln]
   exact sb
  ·show World.ownsRow _ _ _ _ _ _ _
   have o:=row_kept (zu O9) sg d1
   simp only[ln]
   rw[show Tup8.flat8 (x.b.ts++[r8 [r0,r1,r2,r3,r4,r5,r6,r7]])=Tup8.flat8 x.b.ts++[.int .i64 r0,.int .i64 r1,.int .i64 r2,.int .i64 r3,.int .i64 r4,.int .i64 r5,.int .i64 r6,.int .i64 r7] from flat_e _ _ _ _ _ _ _ _ _]
   exact o
end ICl13
namespace IRows13
open BMem Bks BHelp SRead13 VB13 ICl13
open SBytes (AtB getN getF AtBO)
open SPuts11 (gets getsN)
open SRows13 (rowsL rowsN)
open IRd11 (Pl cell_grown grow_below grow_grow)
open IInto13
open IBalsFit (one_more)
open SRead13 (row_kept)
variable {oz:Nat}
theorem getF_in(xs:List Int)(q:Nat):∀f k,(getF xs q f k).2.2=true→0≤(getF xs q f k).2.1∧(getF xs q f k).2.1≤xs.length
 |0,k=>by simp[getF]
 |f+1,k=>by
  intro h
  simp only[getF] at h⊢
  by_cases a:q+k<xs.length
  ·rw[if_pos a] at h⊢
   by_cases b:xs.getD (q+k) 0<128
   ·rw[if_pos b] at h⊢
    by_cases c:xs.getD (q+k) 0=0∧0<k
    ·rw[if_pos c] at h;simp at h
    ·rw[if_neg c];simp;omega
   ·rw[if_neg b] at h⊢
    exact getF_in xs q f (k+1) h
  ·rw[if_neg a] at h;simp at h
theorem getN_in{xs:List Int}{p:Int}(h:(getN xs p).2.2=true):0≤(getN xs p).2.1∧(getN xs p).2.1≤xs.length:=by
 unfold getN at h⊢
 by_cases a:p<0∨(xs.length:Int)≤p
 ·rw[if_pos a] at h;simp at h
 ·rw[if_neg a] at h⊢
  exact getF_in xs _ 9 0 h
theorem gets_in(xs:List Int):∀(m:Nat) (p:Int) (l:List Int),0≤p∧p≤xs.length→(gets xs m p l).2.2=true→0≤(gets xs m p l).2.1∧(gets xs m p l).2.1≤xs.length
 |0,p,l=>fun h _=>h
 |m+1,p,l=>by
  intro h k
  simp only[gets] at k⊢
  by_cases a:(getN xs p).2.2=true
  ·rw[if_pos a] at k⊢
   exact gets_in xs m _ _ (getN_in a) k
  ·rw[if_neg a] at k;simp at k
def lenk(k:Nat)(b:Bk):Nat:=match k with|0=>b.ac.length|1=>b.ic.length|2=>b.bs.length|3=>b.ls.length|_=>b.ts.length
theorem len_put(k:Nat)(rs:List (List Int))(b:Bk):lenk k (putRows k rs b)=rs.length:=by
 unfold lenk putRows
 split<;>simp
theorem put_put:∀(k:Nat) (rs:List (List Int)) (b:Bk),putRows k rs (putRows k [] b)=putRows k rs b
 |0,_,_=>rfl
 |1,_,_=>rfl
 |2,_,_=>rfl
 |3,_,_=>rfl
 |_+4,_,_=>rfl
def RowS(k:Nat)(r:List (List Int)×Int×Bool)(w0 W:World)(p D B N:Nat)(x:Ix)(e:Ending)(W':World):Prop:=
 (r.2.2=false∧Pan e∧Below w0.heap.size w0 W')∨(r.2.2=true∧e= .returned (.tuple #[])∧Kp W W'∧∃x',x'.b=putRows k r.1 x.b∧Rs w0 W' p D B N r.2.1 x')
theorem Rs.aside{w0 V V' V0:World}{p D B N d:Nat}{s s0:Int}{x:Ix}(h:Rs w0 V p D B N s x)(h0:Rs w0 V0 p D B N s0 x)(k:V.grownBy V' (some d))(hd:V0.heap.size≤d)(p1:p<N)(d1:D<N)(q1:B<N):Rs w0 V' p D B N s x:=by
 have n0:=h0.n
 have z:=h0.b.size
 exact⟨Ints.Own.kept h.pl k (by simp;omega),h.bx.kept k (fun e=>by injection e with e;omega),⟨World.ownsRow.kept h.o.oa k (row_out h0.o.oa hd),World.ownsRow.kept h.o.oi k (row_out h0.o.oi hd),World.ownsRow.kept h.o.ob k (row_out h0.o.ob hd),World.ownsRow.kept h.o.ol k (row_out h0.o.ol hd),World.ownsRow.kept h.o.ot k (row_out h0.o.ot hd)⟩,(k.block B h.ltB (fun e=>by injection e with e;omega)).trans h.q,h.b.grown k h.b.size (fun j hj=>by injection hj with hj;omega),Nat.le_trans h.n k.size⟩
theorem cell_heap{W:World}{g i:Nat}{c:Array Value}{t:TypeId}{v:Value}(h:W.heap[g]?=some (.cells c t (0,0)))(hv:c[i]?=some v):W.cell? ⟨g,i,none⟩=some v:=by
 simp[World.cell?,h,hv]
theorem set_grown(W:World)(b:Nat)(v:Value):W.grownBy (W.setCell ⟨b,0,none⟩ v) (some b):=
 ⟨rfl,rfl,rfl,by simp[World.setCell],fun k _ hk=>Below.heap_setCell _ _ _ k (fun e=>hk (by rw[e]))⟩
theorem four(W:World)(o1 o2 o3 o4:Obj):(((((W.alloc o1).alloc o2).alloc o3).alloc o4).heap[W.heap.size]?=some o1∧((((W.alloc o1).alloc o2).alloc o3).alloc o4).heap[W.heap.size+1]?=some o2)∧((((W.alloc o1).alloc o2).alloc o3).alloc o4).heap[W.heap.size+2]?=some o3∧((((W.alloc o1).alloc o2).alloc o3).alloc o4).heap[W.heap.size+3]?=some o4:=by
 refine⟨⟨?_,?_⟩,?_,?_⟩
 ·exact((one_more _ o4).block _ (by simp;omega)).trans (((one_more _ o3).block _ (by simp;omega)).trans (((one_more _ o2).block _ (by simp)).trans (heap_alloc_new W o1)))
 ·have h:=heap_alloc_new (W.alloc o1) o2
  rw[World.size_alloc] at h
  exact((one_more _ o4).block _ (by simp)).trans (((one_more _ o3).block _ (by simp)).trans h)
 ·have h:=heap_alloc_new ((W.alloc o1).alloc o2) o3
  rw[World.size_alloc,World.size_alloc] at h
  exact((one_more _ o4).block _ (by simp)).trans h
 ·have h:=heap_alloc_new (((W.alloc o1).alloc o2).alloc o3) o4
  rw[World.size_alloc,World.size_alloc,World.size_alloc] at h
  exact h
theorem iRows(k m K:Nat)(most:Int)(hm:most≤1000)(hm1:m≤2000)(w0 W:World)(gl cl p D B N:Nat)(xs:List Int)(et:TypeId)(ev:Value)(s:Int)(x:Ix)(b0:Bk)(G:Pg oz w0 gl cl p D B N xs et ev)(R:Rs w0 W p D B N s x)(hs:0≤s∧s≤xs.length)(hx:x.b=putRows k [] b0)
  (hK:∀(args:Array Value) (u:World),(callFunc K args).run Tryz.prog u= .ok (.enter K args) u)
  (HC:∀(V:World) (s':Int) (y:Ix),Rs w0 V p D B N s' y→s'≤9223372036854775807→lenk k y.b≤1000→Calls Tryz.prog K #[.agg #[.slice (some ⟨gl,oz,none⟩) xs.length cl,.pointer (some ⟨p,0,none⟩)],.pointer (some ⟨B,0,none⟩)] V (ClS k (gets xs m s' []) w0 V p D B N y)):
  Calls Tryz.prog 79 #[.agg #[.slice (some ⟨gl,oz,none⟩) xs.length cl,.pointer (some ⟨p,0,none⟩)],.agg #[.int .i64 most,.func (.func K) #[] #[.pointer (some ⟨B,0,none⟩)]]] W (RowS k (rowsN xs s m most) w0 W p D B N x):=by
 have GG:=zh G
 obtain⟨l0,l1,g,a,e,z,p0,p1,d0,d1,q0,q1,pd,pq,dq⟩:=G
 have nn:=R.n
 obtain⟨U,hU⟩:∃U,Hid (U=(((W.alloc (.cells #[.slice (some ⟨gl,oz,none⟩) xs.length cl,.pointer (some ⟨p,0,none⟩)] 92)).alloc (.cells #[.int .i64 most,.func (.func K) #[] #[.pointer (some ⟨B,0,none⟩)]] 127)).alloc (.cells #[.int .i64 0] 3)).alloc (.cells #[.pointer (some ⟨W.heap.size+2,0,none⟩)] 90)):=⟨_,rfl⟩
 have BU:=zh (show Below W.heap.size W U from by
  rw[zu hU]
  exact((((Below.refl _ _).alloc (Nat.le_refl _) _).alloc (by simp) _).alloc (by simp;omega) _).alloc (by simp;omega) _)
 have H1:=zh (show U.heap[W.heap.size]?=some (.cells #[.slice (some ⟨gl,oz,none⟩) xs.length cl,.pointer (some ⟨p,0,none⟩)] 92 (0,0)) from by rw[zu hU];exact(four W _ _ _ _).1.1)
 have H2:=zh (show U.heap[W.heap.size+1]?=some (.cells #[.int .i64 most,.func (.func K) #[] #[.pointer (some ⟨B,0,none⟩)]] 127 (0,0)) from by rw[zu hU];exact(four W _ _ _ _).1.2)
 have H3:=zh (show U.heap[W.heap.size+2]?=some (.cells #[.int .i64 0] 3 (0,0)) from by rw[zu hU];exact(four W _ _ _ _).2.1)
 have H4:=zh (show U.heap[W.heap.size+3]?=some (.cells #[.pointer (some ⟨W.heap.size+2,0,none⟩)] 90 (0,0)) from by rw[zu hU];exact(four W _ _ _ _).2.2)
 have us:U.heap.size=W.heap.size+4:=by rw[zu hU];simp
 have RU:=zh (R.step (zu BU))
 have MU:=zh (iMust1 U gl cl p w0.heap.size (W.heap.size+2) 0 (W.heap.size+3) 1 xs s 0 ev et (by omega) l0 l1 g (a.below (zu RU).b g) (zu RU).pl (by omega) (cell_heap (zu H3) rfl) (by simp[World.frozen?,zu H3]) (cell_heap (zu H4) rfl) (by omega) (by omega) (by omega) (((zu RU).b.cell (p:=⟨0,0,none⟩) z).trans e) z)
 have RW:=zh R
 have FIN:=zh (show rowsN xs s m most=if(getN xs s).2.2=true∧(getN xs s).1≤most then rowsL xs m (getN xs s).1.toNat (getN xs s).2.1 [] else([],0,false) from rfl)
 have NI:=zh (@getN_in xs s)
 have NL:=zh (@getN_lt xs s)
 have HH:=zh HC
 have HX:=zh hx
 clear a e R HC hx
 generalize rowsN xs s m most=fin at *
 generalize getN xs s=r at *
 obtain⟨v,s',ok⟩:=r
 obtain⟨f0,f1,f2⟩:=fin
 go_enter Tryz.func79,Tryz.ntmps79
 go_wp2_with fail
 rw[←zu hU]
 refine(zu MU).mono ?_
 rintro e u (⟨h1,⟨eu,ee,rfl⟩,h3⟩|⟨h1,rfl,u1,h3,h4,rfl⟩)
 ·have F:=zu FIN
  rw[if_neg (fun q=>by simp only at h1;rw[h1] at q;simp at q)] at F
  injection F with F0 F
  injection F with F1 F2
  subst F0 F1 F2
  exact⟨rfl,.inl ⟨rfl,⟨eu,ee,rfl⟩,(zu RU).b.grown h3 (zu RU).b.size (fun j hj=>by injection hj with hj;omega)⟩⟩
 simp only at h1
 subst h1
 have GV:=set_grown u1 (W.heap.size+2) (.int .i64 v)
 have R1:=zh ((zu RU).moved h3 p0 p1 pd pq h4)
 have T3:∃c,u1.heap[W.heap.size+2]?=some (.cells c 3 (0,0)):=⟨_,(h3.block (W.heap.size+2) (by omega) (by simp;omega)).trans (zu H3)⟩
 have KV:=zh (show Kp U (u1.setCell ⟨W.heap.size+2,0,none⟩ (.int .i64 v)) from(Kp.grown h3 (fun j hj=>by injection hj with hj;subst hj;exact(zu RU).typP)).trans (Kp.grown GV (fun j hj=>by injection hj with hj;subst hj;obtain⟨c,hc⟩:=T3;exact⟨_,hc,rfl⟩)))
 have R2:=zh (Rs.aside (zu R1) (zu RW) GV (by omega) p1 d1 q1)
 have c3:(u1.setCell ⟨W.heap.size+2,0,none⟩ (.int .i64 v)).cell? ⟨W.heap.size+2,0,none⟩=some (.int .i64 v):=by
  have q:=(h3.block (W.heap.size+2) (by omega) (by simp;omega)).trans (zu H3)
  have:u1.cell? ⟨W.heap.size+2,0,none⟩=some (.int .i64 0):=cell_heap q rfl
  simp[go_sem,this]
 generalize u1.setCell ⟨W.heap.size+2,0,none⟩ (.int .i64 v)=V at *
 clear GV T3 h3 h4 R1 MU RU H3 H4
 have hv0:=(zu NL) rfl
 have hs':=(zu NI) rfl
 clear NL NI
 have HV1:=zh ((zu KV) _ _ (zu H1) rfl)
 have HV2:=zh ((zu KV) _ _ (zu H2) rfl)
 have c10:V.cell? ⟨W.heap.size,0,none⟩=some (.slice (some ⟨gl,oz,none⟩) xs.length cl):=cell_heap (zu HV1) rfl
 have c11:V.cell? ⟨W.heap.size,1,none⟩=some (.pointer (some ⟨p,0,none⟩)):=cell_heap (zu HV1) rfl
 have c20:V.cell? ⟨W.heap.size+1,0,none⟩=some (.int .i64 most):=cell_heap (zu HV2) rfl
 have c21:V.cell? ⟨W.heap.size+1,1,none⟩=some (.func (.func K) #[] #[.pointer (some ⟨B,0,none⟩)]):=cell_heap (zu HV2) rfl
 have e0:V.cell? ⟨0,0,none⟩=some (.iface et ev):=((zu R2).b.cell (p:=⟨0,0,none⟩) z).trans (zu GG).e
 unfold Fm at hv0
 by_cases hq:v≤most
 case neg=>
  have hq':v>most:=by omega
  have F:=zu FIN
  rw[if_neg (fun q=>hq q.2)] at F
  injection F with F0 F
  injection F with F1 F2
  subst F0 F1 F2
  clear FIN hq
  go_wp2
  exact⟨rfl,.inl ⟨rfl,⟨_,_,rfl⟩,(zu R2).b⟩⟩
 have F:=zu FIN
 rw[if_pos ⟨rfl,hq⟩] at F
 obtain⟨n,rfl⟩:∃n:Nat,v=n:=⟨v.toNat,by omega⟩
 have FN:=zh (show(f0,f1,f2)=rowsL xs m (n-0) s' [] from by rw[F];simp)
 clear F FIN
 have hq1:¬(n:Int)>most:=by omega
 have KW:=zh ((Kp.below (zu BU)).trans (zu KV))
 have hn:n≤1000:=by omega
 go_wp2
 clear c10 c11 c20 c21 e0 c3
 go_loopw [14] (fun i wr=>∃(j:Nat) (t:Int) (rows:List (List Int)) (y:Ix),i= .int .i64 j∧j≤n∧Hid ((f0,f1,f2)=rowsL xs m (n-j) t rows)∧Hid (rows.length=j)∧Hid (y.b=putRows k rows b0)∧Hid (Rs w0 wr p D B N t y)∧Hid (Kp W wr)∧Hid (Kp U wr)∧0≤t∧t≤xs.length) (fun i _=>n-(intOf i).toNat)
 case atStart=>exact⟨0,s',[],x,rfl,by omega,FN,zh rfl,HX,R2,KW,KV,hs'.1,hs'.2⟩
 case round=>
  clear FN KW KV R2
  obtain⟨j,t,rows,y,rfl,hj,FJ,RL,YB,RJ,KJ,KU,t0,t1⟩:=hrel
  have HV1:=zh ((zu KU) _ _ (zu H1) rfl)
  have HV2:=zh ((zu KU) _ _ (zu H2) rfl)
  have c10:wr.cell? ⟨W.heap.size,0,none⟩=some (.slice (some ⟨gl,oz,none⟩) xs.length cl):=cell_heap (zu HV1) rfl
  have c11:wr.cell? ⟨W.heap.size,1,none⟩=some (.pointer (some ⟨p,0,none⟩)):=cell_heap (zu HV1) rfl
  have c21:wr.cell? ⟨W.heap.size+1,1,none⟩=some (.func (.func K) #[] #[.pointer (some ⟨B,0,none⟩)]):=cell_heap (zu HV2) rfl
  by_cases h:j<n
  case neg=>
   have ej:j=n:=by omega
   subst ej
   have F:=zu FJ
   rw[Nat.sub_self] at F
   simp only[rowsL] at F
   injection F with F0 F
   injection F with F1 F2
   subst F0 F1 F2
   clear FJ
   go_wp2
   go_end0
   exact .inr ⟨rfl,rfl,zu KJ,y,(zu YB).trans (by rw[zu HX,put_put]),zu RJ⟩
  have jn:(j:Int)<n:=by omega
  have NX:=zh (show(f0,f1,f2)=if(gets xs m t []).2.2=true then rowsL xs m (n-(j+1)) (gets xs m t []).2.1 (rows++[(gets xs m t []).1]) else(rows,0,false) from by
   have q:getsN xs t m=gets xs m t []:=by unfold getsN;rw[if_pos ⟨by omega,t0,t1⟩];simp
   rw[zu FJ,show n-j=(n-(j+1))+1 by omega]
   simp only[rowsL,q])
  have CL:=zh ((zu HH) wr t y (zu RJ) (by omega) (by rw[zu YB,len_put,zu RL];omega))
  have GI:=zh (gets_in xs m t [] ⟨t0,t1⟩)
  clear FJ
  generalize gets xs m t []=r at *
  obtain⟨l,t',ok⟩:=r
  go_wp2_with fail
  refine(zu CL).mono ?_
  rintro e u (⟨h1,⟨eu,ee,rfl⟩,h3⟩|⟨h1,rfl,h3,y',h4,h5⟩)
  ·have F:=zu NX
   rw[if_neg (fun q=>by simp only at h1;rw[h1] at q;simp at q)] at F
   injection F with F0 F
   injection F with F1 F2
   subst F0 F1 F2
   exact⟨rfl,.inl ⟨rfl,⟨eu,ee,rfl⟩,h3⟩⟩
  simp only at h1
  subst h1
  have F:=zu NX
  rw[if_pos rfl] at F
  have FJ:=zh F
  have ti:=(zu GI) rfl
  have RJ':=zh h5
  have KJ':=zh ((zu KJ).trans h3)
  have KU':=zh ((zu KU).trans h3)
  have YB':=zh (show y'.b=putRows k (rows++[l]) b0 from by rw[h4,zu YB,add_put])
  clear F h3 h4 h5 NX GI CL c10 c11 c21
  go_wp2
  go_roundw
  case rel=>exact⟨j+1,t',rows++[l],y',by go_num,by omega,FJ,zh (by simp[zu RL]),YB',RJ',KJ',KU',ti.1,ti.2⟩
  case measure=>simp[intOf];omega
end IRows13
namespace Legs
open Bals Triples Cmp SOk3 IOk3 Tab Look
def STab(w:World)(B n:Nat)(g:Int→Int):Prop:=∃D:D0,w.ownsMap Tryz.prog 3 (plainElem Tryz.prog 3) B n D∧∀i,(Lit.int .i64 i).wf=true→D.atKey (.int .i64 i) (.lit (.int .i64 0))= .lit (.int .i64 (g i))
theorem STab.kept{w w':World}{B n:Nat}{f:Int→Int}{row:Option Nat}(h:STab w B n f)(hg:w.grownBy w' row)(hne:some B≠row):STab w' B n f:=by
 obtain⟨D,h1,h2⟩:=h
 exact⟨D,h1.kept hg hne,h2⟩
theorem STab.lt{w:World}{B n:Nat}{f:Int→Int}(h:STab w B n f):B<w.heap.size:=by
 obtain⟨D,h1,_⟩:=h
 exact h1.lt
def RSTab(w:World)(B r n:Nat)(g:Int→Int)(left:Int→Bool)(cnt:Nat):Prop:=
 ∃(D:D0) (lf:Lit→Bool),w.ranges Tryz.prog 3 (plainElem Tryz.prog 3) B r n D lf cnt∧(∀i,(Lit.int .i64 i).wf=true→D.atKey (.int .i64 i) (.lit (.int .i64 0))= .lit (.int .i64 (g i)))∧∀i,left i=lf (.int .i64 i)
theorem RSTab.left_eq{w:World}{B r n:Nat}{f:Int→Int}{left:Int→Bool}{cnt:Nat}(h:RSTab w B r n f left cnt):w.rangeLeft B r=cnt:=by
 obtain⟨D,lf,h1,_⟩:=h
 exact h1.left_eq
end Legs
namespace BalApp
open Bals Triples
theorem info2:(Tryz.prog.info? 78).map (fun i=>(i.zero,i.size,i.bytes))=some (some (.agg #[.int .i64 0,.int .i64 0,.int .i64 0]),3,24):=by kernel_rfl
theorem wp_app(u:World){ops:Array Oper}{rest:List Oper}{o:Oper}{a:Act}{Q:Exit→Act→World→Prop}(hgd:o.guard=none)(s x:Operand)
  (ho:o.op= .call {callee:= .builtin .append,args:= #[s,x],argTypes:= #[28,28]})(base g n cap:Nat)(ps:List T3)(vb:Nat)(p q r:Int)
  (hs:a.eval s= .slice (some ⟨g,0,none⟩) n cap)(hx:a.eval x= .slice (some ⟨vb,0,none⟩) 1 1)(hown:Own3 78 u base g n cap ps)(hv:Holds3 u vb 0 (p,q,r))(hn:n≤1048576)(hb:base≤u.heap.size)
  (h:∀g' c' w',Own3 78 w' base g' (n+1) c' (ps++[(p,q,r)])→u.grownBy w' (some g)→(g'=g∨g'=u.heap.size)→wpList Tryz.prog ops Q rest (a.put o.dst (.slice (some ⟨g',0,none⟩) (n+1) c')) w'):wpList Tryz.prog ops Q (o::rest) a u:=by
 obtain⟨i0,hi,hz0,hz1,hz2⟩:=info_parts info2
 have hat:At3 u vb [(p,q,r)]:=by
  intro i hi
  obtain rfl:i=0:=by simpa using hi
  exact hv
 refine wpList_append_own_at u hgd s x 28 ho base 78 i0 (.agg #[.int .i64 0,.int .i64 0,.int .i64 0]) 3 24 Tryz.underlying28 hi hz0 hz1 hz2 rfl (by decide) _ n _ hs hown ⟨vb,0,none⟩ 1 1 (flat3 [(p,q,r)]) hx rfl hat.cells (fun u hu=>flat3_one u _ hu) (by unfold maxLen;omega) (by omega) hb ?_
 intro v' w' own' gr' nil' loc'
 obtain⟨g',c',rfl,o'⟩:=own3_of_row (n':=n+1) (ps:=ps++[(p,q,r)]) own' rfl (by rw[flat3_append]) (by rw[nil'];simp)
 exact h g' c' w' o' gr' (by simpa[Value.ownBlock] using loc')
end BalApp
end Go.Proofs.YtagmnociflkhcaaGreatDoor
