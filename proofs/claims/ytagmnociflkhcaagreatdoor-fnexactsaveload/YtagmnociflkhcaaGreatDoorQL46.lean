/- Texts of one proof, one behind the other: ISaveLoad16. -/
import Derived.Test.YtagmnociflkhcaaGreatDoorRows
import Derived.Test.YtagmnociflkhcaaGreatDoorCards
import Derived.Test.YtagmnociflkhcaaGreatDoorTie
import Derived.Test.YtagmnociflkhcaaGreatDoorQL0
import Derived.Test.YtagmnociflkhcaaGreatDoorQL22
import Derived.Test.YtagmnociflkhcaaGreatDoorQL26
import Derived.Test.YtagmnociflkhcaaGreatDoorQL27
import Derived.Test.YtagmnociflkhcaaGreatDoorQL29
import Derived.Test.YtagmnociflkhcaaGreatDoorQL30
import Derived.Test.YtagmnociflkhcaaGreatDoorQL33
import Derived.Test.YtagmnociflkhcaaGreatDoorQL45
set_option linter.unusedVariables false
set_option linter.unusedSimpArgs false
open Go.ChangeShapes Go.WideShapes Go.ChangeAt Go.RowKit
set_option maxRecDepth 100000
set_option maxHeartbeats 32000000
namespace Go.Proofs.YtagmnociflkhcaaGreatDoor
namespace ISaveLoad16
open Fil14 OpensF14 DiskH14 DkH14 SDk14 SOk14 SRd14 Conv15 SegP15 Bx16 LawX16 SLoad16
open Bks (Bk)
open BHelp (Ix)
open VB13 (OwV)
open SBytes (AtB AtBO getN)
open SUnseal11 (unsealN getN_in)
open SRead13 (readB zeroB)
theorem own_no{w w':World}{e:Ending}(h:e= .returned (.tuple #[.agg #[.int .i64 0,.slice none 0 0,.slice none 0 0,.slice none 0 0,.slice none 0 0,.slice none 0 0,.int .i64 0],.bool false]))(hb:Below w.heap.size w w'):LoadOwn ((0,zeroB),false) w e w':=
 ⟨⟨none,0,none,0,none,0,none,0,none,0,zeroB⟩,rfl,h,⟨⟨rfl,.inl ⟨rfl,rfl⟩⟩,⟨rfl,.inl ⟨rfl,rfl⟩⟩,⟨rfl,.inl ⟨rfl,rfl⟩⟩,⟨rfl,.inl ⟨rfl,rfl⟩⟩,⟨rfl,.inl ⟨rfl,rfl⟩⟩⟩,hb⟩
theorem wf21:TabF14.Wf 21:=by unfold TabF14.Wf;decide
theorem un_none:(unsealN (nums ByteArray.empty) 0).2.2=1:=by
 have e:nums ByteArray.empty=[]:=List.eq_nil_of_length_eq_zero (by rw[nums_len];simp)
 rw[e]
 unfold SUnseal11.unsealN SBytes.getN
 simp
theorem load_alt(room:Int)(ps:List TF):loadD room ps=if(unsealN (nums (readD room ps 21).1) 0).2.2=0∧(unsealN (nums (readD room ps 21).1) 0).2.1=(nums (readD room ps 21).1).length then loadH (unsealN (nums (readD room ps 21).1) 0).1 else((0,zeroB),false):=by
 unfold loadD
 by_cases r:(readD room ps 21).2=true
 ·by_cases q:(unsealN (nums (readD room ps 21).1) 0).2.2=0∧(unsealN (nums (readD room ps 21).1) 0).2.1=(nums (readD room ps 21).1).length
  ·rw[if_pos ⟨r,q⟩,if_pos q]
  ·rw[if_neg (fun h=>q h.2),if_neg q]
 ·have e:(readD room ps 21).1=ByteArray.empty:=by
   unfold readD at r⊢
   split
   ·rename_i q
    rw[if_pos q] at r
    exact absurd rfl r
   ·rfl
  rw[if_neg (fun h=>r h.1),e,if_neg (fun h=>by rw[un_none] at h;exact absurd h.1 (by decide))]
theorem ownV_kept{w w':World}{base:Nat}{x:Ix}{g:Nat}(h:OwV w base x)(k:w.grownBy w' (some g))(n:g<base):OwV w' base x:=
 have q:∀{e:TypeId} {m:Nat} {v:Value} {l:Nat} {vs:List Value},w.ownsRow base e m v l vs→w'.ownsRow base e m v l vs:=fun o=>by
  refine⟨o.1,?_⟩
  rcases o.2 with h1|⟨g',c,cur,h1,h2,h3,h4⟩
  ·exact .inl h1
  ·have lg:=World.ownsRow.lt o g' (by rw[h1];rfl)
   exact .inr ⟨g',c,cur,h1,h2,(k.block g' lg.2 (by simp;omega)).trans h3,h4⟩
 ⟨q h.oa,q h.oi,q h.ob,q h.ol,q h.ot⟩
theorem ownV_base{w:World}{base base':Nat}{x:Ix}(h:OwV w base x)(n:base'≤base):OwV w base' x:=
 have q:∀{e:TypeId} {m:Nat} {v:Value} {l:Nat} {vs:List Value},w.ownsRow base e m v l vs→w.ownsRow base' e m v l vs:=fun o=>by
  refine⟨o.1,?_⟩
  rcases o.2 with h1|⟨g',c,cur,h1,h2,h3⟩
  ·exact .inl h1
  ·exact .inr ⟨g',c,cur,h1,Nat.le_trans n h2,h3⟩
 ⟨q h.oa,q h.oi,q h.ob,q h.ol,q h.ot⟩
theorem yfinO{w u:World}{a0 a1 a2 a3 a4 a5 a6:Value}(B:Below w.heap.size w u)(K:Bx7 u w.heap.size (w.heap.size+1) a0 a1 a2 a3 a4 a5 a6)(f:Int)(y:Ix){B0:Nat}(h:OwV u B0 y)(hB:w.heap.size+1<B0):
  Below w.heap.size w ((((((((u).setCell ⟨w.heap.size+1,0,none⟩ (.int .i64 f)).setCell ⟨w.heap.size+1,1,none⟩ (.slice y.aa y.b.ac.length y.ca)).setCell ⟨w.heap.size+1,2,none⟩ (.slice y.ai y.b.ic.length y.ci)).setCell ⟨w.heap.size+1,3,none⟩ (.slice y.ab y.b.bs.length y.cb)).setCell ⟨w.heap.size+1,4,none⟩ (.slice y.al y.b.ls.length y.cl)).setCell ⟨w.heap.size+1,5,none⟩ (.slice y.ats y.b.ts.length y.ct)).setCell ⟨w.heap.size+1,6,none⟩ (.int .i64 y.b.lot))∧Bx7 ((((((((u).setCell ⟨w.heap.size+1,0,none⟩ (.int .i64 f)).setCell ⟨w.heap.size+1,1,none⟩ (.slice y.aa y.b.ac.length y.ca)).setCell ⟨w.heap.size+1,2,none⟩ (.slice y.ai y.b.ic.length y.ci)).setCell ⟨w.heap.size+1,3,none⟩ (.slice y.ab y.b.bs.length y.cb)).setCell ⟨w.heap.size+1,4,none⟩ (.slice y.al y.b.ls.length y.cl)).setCell ⟨w.heap.size+1,5,none⟩ (.slice y.ats y.b.ts.length y.ct)).setCell ⟨w.heap.size+1,6,none⟩ (.int .i64 y.b.lot)) w.heap.size (w.heap.size+1) (.int .i64 f) (.slice y.aa y.b.ac.length y.ca) (.slice y.ai y.b.ic.length y.ci) (.slice y.ab y.b.bs.length y.cb) (.slice y.al y.b.ls.length y.cl) (.slice y.ats y.b.ts.length y.ct) (.int .i64 y.b.lot)∧OwV ((((((((u).setCell ⟨w.heap.size+1,0,none⟩ (.int .i64 f)).setCell ⟨w.heap.size+1,1,none⟩ (.slice y.aa y.b.ac.length y.ca)).setCell ⟨w.heap.size+1,2,none⟩ (.slice y.ai y.b.ic.length y.ci)).setCell ⟨w.heap.size+1,3,none⟩ (.slice y.ab y.b.bs.length y.cb)).setCell ⟨w.heap.size+1,4,none⟩ (.slice y.al y.b.ls.length y.cl)).setCell ⟨w.heap.size+1,5,none⟩ (.slice y.ats y.b.ts.length y.ct)).setCell ⟨w.heap.size+1,6,none⟩ (.int .i64 y.b.lot)) w.heap.size y:=by
 have t0:=K.set0 (.int .i64 f)
 have t1:=t0.1.set1 (.slice y.aa y.b.ac.length y.ca)
 have t2:=t1.1.set2 (.slice y.ai y.b.ic.length y.ci)
 have t3:=t2.1.set3 (.slice y.ab y.b.bs.length y.cb)
 have t4:=t3.1.set4 (.slice y.al y.b.ls.length y.cl)
 have t5:=t4.1.set5 (.slice y.ats y.b.ts.length y.ct)
 have t6:=t5.1.set6 (.int .i64 y.b.lot)
 have G:=(grow_grow (grow_grow (grow_grow (grow_grow (grow_grow (grow_grow t0.2 t1.2) t2.2) t3.2) t4.2) t5.2) t6.2)
 have lt:=K.lt
 exact⟨grow_low B G ⟨by omega,B.size⟩,t6.1,ownV_base (ownV_kept h G (by omega)) (by omega)⟩
theorem iSaveLoad(w:World)(x:Dx)(et:TypeId)(ev:Value)(hr:RdD w x)(hz:sumZ x.ps≤1048576)(he:w.cell? ⟨0,0,none⟩=some (.iface et ev)):
  Calls Tryz.prog 7 #[.agg #[.int .i64 x.room,.slice x.a x.ps.length x.c]] w (LoadOwn (loadD x.room x.ps) w):=by
 have D1:=Wd.made hr 39
 have b2:=one_more (w.alloc (.cells #[.int .i64 x.room,.slice x.a x.ps.length x.c] 39)) (.cells #[.int .i64 0,.slice none 0 0,.slice none 0 0,.slice none 0 0,.slice none 0 0,.slice none 0 0,.int .i64 0] 34)
 have G0:=zh (D1.step b2)
 have K0:=zh (Bx7.made (w:=w.alloc (.cells #[.int .i64 x.room,.slice x.a x.ps.length x.c] 39)) (base:=w.heap.size) (g:=w.heap.size+1) (.int .i64 0) (.slice none 0 0) (.slice none 0 0) (.slice none 0 0) (.slice none 0 0) (.slice none 0 0) (.int .i64 0) (by simp) (by simp))
 have RD:=zh (fun u (h:RdD u x)=>IRd14.iDiskRead u x 21 h hz wf21)
 have TS:=zh (rd_size (room:=x.room) (nm:=21) hz)
 have RE:=zh (load_alt x.room x.ps)
 have HE:=zh he
 have w0:0<w.heap.size:=by
  rcases Nat.eq_zero_or_pos w.heap.size with h|h
  ·exfalso
   have:w.heap[0]?=none:=by simp[h]
   simp[World.cell?,this] at he
  ·exact h
 generalize loadD x.room x.ps=rr at *
 generalize readD x.room x.ps 21=rd at *
 obtain⟨tx,th⟩:=rd
 have c0:=(zu G0).c0
 have c1:=(zu G0).c1
 have lt:=(zu G0).lt
 clear hr D1 b2 he
 go_enter Tryz.func7,Tryz.ntmps7
 go_wp2_with fail
 generalize ((w.alloc (.cells #[.int .i64 x.room,.slice x.a x.ps.length x.c] 39)).alloc (.cells #[.int .i64 0,.slice none 0 0,.slice none 0 0,.slice none 0 0,.slice none 0 0,.slice none 0 0,.int .i64 0] 34))=W at *
 refine(zu RD _ (zu G0).r).mono ?_
 rintro e u ⟨rfl,b1⟩
 have B1:=zh ((zu G0).b.trans (b1.mono (zu G0).b.size))
 have K1:=zh ((zu K0).below b1 (zu K0).lt.2)
 have us:=b1.size
 have wl:=(zu K0).lt.2
 clear b1 c0 c1 lt RD K0 G0
 have XL:=zh (show(nums tx).length=tx.size from nums_len tx)
 have tl:=zu TS
 obtain⟨cb,W3,hcb,CV,AB,s3,b3⟩:=to_bytes u tx
 have B3:=zh ((zu B1).trans (b3.mono (zu B1).size))
 have K3:=zh ((zu K1).below b3 (zu K1).lt.2)
 have hl:(nums tx).length≤1048576:=by rw[nums_len];exact tl
 have UN:=zh (IUnseal11.iUnsealG W3 u.heap.size cb (nums tx) 0 hl hcb (by omega) (by omega) AB)
 have UL:=zh (un_len (nums tx) 0)
 have UI:=zh (un_in (xs:=nums tx) 0 (fun i hi=>(AB i hi).2))
 generalize nums tx=xs at *
 generalize unsealN xs 0=un at *
 obtain⟨hs,uq,uc⟩:=un
 clear b3 AB B1 K1 hcb
 go_wp2_with fail
 refine(zu UN).mono ?_
 rintro e u4 ⟨g4,c4,rfl,o4,b4⟩
 have B4:=zh ((zu B3).trans (b4.mono (zu B3).size))
 have K4:=zh ((zu K3).below b4 (zu K3).lt.2)
 have O4:=zh o4
 have us4:=b4.size
 clear b4 o4 CV UN B3 K3
 by_cases cz:uc=0
 case neg=>
  have E:=zh (show rr=((0,zeroB),false) by rw[zu RE,if_neg (fun h=>cz h.1)])
  have cb':(uc !=0)=true:=by simpa using cz
  clear RE cz
  have f0:=(zu K4).free 0
  have q0:=(zu K4).c0
  have f1:=(zu K4).free 1
  have q1:=(zu K4).c1
  have f2:=(zu K4).free 2
  have q2:=(zu K4).c2
  have f3:=(zu K4).free 3
  have q3:=(zu K4).c3
  have f4:=(zu K4).free 4
  have q4:=(zu K4).c4
  have f5:=(zu K4).free 5
  have q5:=(zu K4).c5
  have f6:=(zu K4).free 6
  have q6:=(zu K4).c6
  have FZ:=zh (zfin (zu B4) (zu K4))
  go_wp2
  generalize (((((((u4).setCell ⟨w.heap.size+1,0,none⟩ (.int .i64 0)).setCell ⟨w.heap.size+1,1,none⟩ (.slice none 0 0)).setCell ⟨w.heap.size+1,2,none⟩ (.slice none 0 0)).setCell ⟨w.heap.size+1,3,none⟩ (.slice none 0 0)).setCell ⟨w.heap.size+1,4,none⟩ (.slice none 0 0)).setCell ⟨w.heap.size+1,5,none⟩ (.slice none 0 0)).setCell ⟨w.heap.size+1,6,none⟩ (.int .i64 0)=U at *
  clear f0 q0 f1 q1 f2 q2 f3 q3 f4 q4 f5 q5 f6 q6
  have r0:=(zu FZ).2.c0
  have r1:=(zu FZ).2.c1
  have r2:=(zu FZ).2.c2
  have r3:=(zu FZ).2.c3
  have r4:=(zu FZ).2.c4
  have r5:=(zu FZ).2.c5
  have r6:=(zu FZ).2.c6
  refine bodyPost_ret (v:= .tuple #[.agg #[.int .i64 0,.slice none 0 0,.slice none 0 0,.slice none 0 0,.slice none 0 0,.slice none 0 0,.int .i64 0],.bool false]) (by simp[results,Tryz.results7,go_sem,r0,r1,r2,r3,r4,r5,r6]) rfl ?_
  rw[zu E]
  exact own_no rfl (zu FZ).1
 subst cz
 by_cases qz:uq=tx.size
 case neg=>
  have E:=zh (show rr=((0,zeroB),false) by rw[zu RE,if_neg (fun h=>qz (h.2.trans (by rw[zu XL])))])
  have qb:(uq !=(tx.size:Int))=true:=by simpa using qz
  clear RE qz
  have f0:=(zu K4).free 0
  have q0:=(zu K4).c0
  have f1:=(zu K4).free 1
  have q1:=(zu K4).c1
  have f2:=(zu K4).free 2
  have q2:=(zu K4).c2
  have f3:=(zu K4).free 3
  have q3:=(zu K4).c3
  have f4:=(zu K4).free 4
  have q4:=(zu K4).c4
  have f5:=(zu K4).free 5
  have q5:=(zu K4).c5
  have f6:=(zu K4).free 6
  have q6:=(zu K4).c6
  have FZ:=zh (zfin (zu B4) (zu K4))
  go_wp2
  generalize (((((((u4).setCell ⟨w.heap.size+1,0,none⟩ (.int .i64 0)).setCell ⟨w.heap.size+1,1,none⟩ (.slice none 0 0)).setCell ⟨w.heap.size+1,2,none⟩ (.slice none 0 0)).setCell ⟨w.heap.size+1,3,none⟩ (.slice none 0 0)).setCell ⟨w.heap.size+1,4,none⟩ (.slice none 0 0)).setCell ⟨w.heap.size+1,5,none⟩ (.slice none 0 0)).setCell ⟨w.heap.size+1,6,none⟩ (.int .i64 0)=U at *
  clear f0 q0 f1 q1 f2 q2 f3 q3 f4 q4 f5 q5 f6 q6
  have r0:=(zu FZ).2.c0
  have r1:=(zu FZ).2.c1
  have r2:=(zu FZ).2.c2
  have r3:=(zu FZ).2.c3
  have r4:=(zu FZ).2.c4
  have r5:=(zu FZ).2.c5
  have r6:=(zu FZ).2.c6
  refine bodyPost_ret (v:= .tuple #[.agg #[.int .i64 0,.slice none 0 0,.slice none 0 0,.slice none 0 0,.slice none 0 0,.slice none 0 0,.int .i64 0],.bool false]) (by simp[results,Tryz.results7,go_sem,r0,r1,r2,r3,r4,r5,r6]) rfl ?_
  rw[zu E]
  exact own_no rfl (zu FZ).1
 subst qz
 have RH:=zh (show rr=loadH hs by rw[zu RE,if_pos ⟨by trivial,by rw[zu XL]⟩])
 have hl2:hs.length≤1048576:=by
  have:=zu UL
  try simp only at this
  omega
 have AH:=zh (show AtB u4 g4 hs from fun i hi=>⟨(zu O4).at i hi,(zu UI) i hi⟩)
 have hc4:hs.length≤c4:=by
  rcases(zu O4).2 with⟨h1,_⟩|⟨g',c',cur,h1,_,_,h4,_⟩
  ·simp at h1
  ·obtain⟨_,e⟩:g4=g'∧c4=c':=by simpa using h1
   omega
 have GN:=zh (IGet11.iGetNum u4 g4 c4 hs 0 hl2 hc4 (by omega) (zu O4).lt.2 (zu AH))
 have GI:=zh (getN_in hs 0)
 have LH:=zh (show loadH hs=if(getN hs 0).2.2=true∧okS (getN hs 0).1=true∧(readB (hs.drop (getN hs 0).2.1.toNat)).2=true then(((getN hs 0).1,(readB (hs.drop (getN hs 0).2.1.toNat)).1),true) else((0,zeroB),false) from rfl)
 generalize getN hs 0=gn at *
 obtain⟨f,fq,fb⟩:=gn
 clear RE UL UI TS
 go_wp2_with fail
 refine(zu GN).mono ?_
 rintro e v4 ⟨rfl,b5⟩
 have B4':=zh ((zu B4).trans (b5.mono (zu B4).size))
 have K4':=zh ((zu K4).below b5 (zu K4).lt.2)
 have AH':=zh (show AtB v4 g4 hs from(zu AH).below b5 (zu O4).lt.2)
 have lg4:g4<v4.heap.size:=Nat.lt_of_lt_of_le (zu O4).lt.2 b5.size
 have us5:=b5.size
 clear GN b5 B4 K4 AH O4
 have B4:=B4'
 have K4:=K4'
 have AH:=AH'
 clear B4' K4' AH'
 cases fb with
 |false=>
  have E:=zh (show rr=((0,zeroB),false) by rw[zu RH,zu LH,if_neg (fun h=>by simp at h)])
  clear RH LH
  have f0:=(zu K4).free 0
  have q0:=(zu K4).c0
  have f1:=(zu K4).free 1
  have q1:=(zu K4).c1
  have f2:=(zu K4).free 2
  have q2:=(zu K4).c2
  have f3:=(zu K4).free 3
  have q3:=(zu K4).c3
  have f4:=(zu K4).free 4
  have q4:=(zu K4).c4
  have f5:=(zu K4).free 5
  have q5:=(zu K4).c5
  have f6:=(zu K4).free 6
  have q6:=(zu K4).c6
  have FZ:=zh (zfin (zu B4) (zu K4))
  go_wp2
  generalize (((((((v4).setCell ⟨w.heap.size+1,0,none⟩ (.int .i64 0)).setCell ⟨w.heap.size+1,1,none⟩ (.slice none 0 0)).setCell ⟨w.heap.size+1,2,none⟩ (.slice none 0 0)).setCell ⟨w.heap.size+1,3,none⟩ (.slice none 0 0)).setCell ⟨w.heap.size+1,4,none⟩ (.slice none 0 0)).setCell ⟨w.heap.size+1,5,none⟩ (.slice none 0 0)).setCell ⟨w.heap.size+1,6,none⟩ (.int .i64 0)=U at *
  clear f0 q0 f1 q1 f2 q2 f3 q3 f4 q4 f5 q5 f6 q6
  have r0:=(zu FZ).2.c0
  have r1:=(zu FZ).2.c1
  have r2:=(zu FZ).2.c2
  have r3:=(zu FZ).2.c3
  have r4:=(zu FZ).2.c4
  have r5:=(zu FZ).2.c5
  have r6:=(zu FZ).2.c6
  refine bodyPost_ret (v:= .tuple #[.agg #[.int .i64 0,.slice none 0 0,.slice none 0 0,.slice none 0 0,.slice none 0 0,.slice none 0 0,.int .i64 0],.bool false]) (by simp[results,Tryz.results7,go_sem,r0,r1,r2,r3,r4,r5,r6]) rfl ?_
  rw[zu E]
  exact own_no rfl (zu FZ).1
 |true=>
 cases sk:okS f with
 |false=>
  have E:=zh (show rr=((0,zeroB),false) by rw[zu RH,zu LH,if_neg (fun h=>by rw[sk] at h;simp at h)])
  have SK:=zh sk
  clear RH LH sk
  go_wp2_with fail
  refine(ISg15.iSegOk _ f false (zu SK)).mono ?_
  rintro e v4 ⟨rfl,rfl⟩
  have f0:=(zu K4).free 0
  have q0:=(zu K4).c0
  have f1:=(zu K4).free 1
  have q1:=(zu K4).c1
  have f2:=(zu K4).free 2
  have q2:=(zu K4).c2
  have f3:=(zu K4).free 3
  have q3:=(zu K4).c3
  have f4:=(zu K4).free 4
  have q4:=(zu K4).c4
  have f5:=(zu K4).free 5
  have q5:=(zu K4).c5
  have f6:=(zu K4).free 6
  have q6:=(zu K4).c6
  have FZ:=zh (zfin (zu B4) (zu K4))
  go_wp2
  generalize (((((((v4).setCell ⟨w.heap.size+1,0,none⟩ (.int .i64 0)).setCell ⟨w.heap.size+1,1,none⟩ (.slice none 0 0)).setCell ⟨w.heap.size+1,2,none⟩ (.slice none 0 0)).setCell ⟨w.heap.size+1,3,none⟩ (.slice none 0 0)).setCell ⟨w.heap.size+1,4,none⟩ (.slice none 0 0)).setCell ⟨w.heap.size+1,5,none⟩ (.slice none 0 0)).setCell ⟨w.heap.size+1,6,none⟩ (.int .i64 0)=U at *
  clear f0 q0 f1 q1 f2 q2 f3 q3 f4 q4 f5 q5 f6 q6
  have r0:=(zu FZ).2.c0
  have r1:=(zu FZ).2.c1
  have r2:=(zu FZ).2.c2
  have r3:=(zu FZ).2.c3
  have r4:=(zu FZ).2.c4
  have r5:=(zu FZ).2.c5
  have r6:=(zu FZ).2.c6
  refine bodyPost_ret (v:= .tuple #[.agg #[.int .i64 0,.slice none 0 0,.slice none 0 0,.slice none 0 0,.slice none 0 0,.slice none 0 0,.int .i64 0],.bool false]) (by simp[results,Tryz.results7,go_sem,r0,r1,r2,r3,r4,r5,r6]) rfl ?_
  rw[zu E]
  exact own_no rfl (zu FZ).1
 |true=>
 have SK:=zh sk
 obtain⟨f0',q0',q1'⟩:=(zu GI) rfl
 try simp only at f0' q0' q1'
 obtain⟨k,rfl⟩:∃k:Nat,fq=k:=⟨fq.toNat,by omega⟩
 have kl:k≤hs.length:=by omega
 have EV:=zh (((zu B4).cell (p:=⟨0,0,none⟩) (show 0<w.heap.size by omega)).trans (zu HE))
 have SR:=zh (show ∀o cc,(o=k∨hs.length=k)→hs.length-k≤cc→Calls Tryz.prog 24 #[.slice (some ⟨g4,o,none⟩) (hs.length-k) cc] v4 (fun e w'=>∃x:Ix,x.b=(readB (hs.drop k)).1∧e= .returned (.tuple #[.agg #[.slice x.aa x.b.ac.length x.ca,.slice x.ai x.b.ic.length x.ci,.slice x.ab x.b.bs.length x.cb,.slice x.al x.b.ls.length x.cl,.slice x.ats x.b.ts.length x.ct,.int .i64 x.b.lot],.bool (readB (hs.drop k)).2])∧OwV w' v4.heap.size x∧Below v4.heap.size v4 w') from fun o cc ho hcc=>by
  have:=IFace13.iBooksReadO (oz:=o) v4 g4 cc (hs.drop k) et ev (by simp;omega) (by simp;omega) lg4 (fun i hi=>by
   have hi':k+i<hs.length:=by simp at hi;omega
   have ok':o=k:=by omega
   have e:(hs.drop k).getD i 0=hs.getD (k+i) 0:=by simp[List.getD,List.getElem?_drop]
   rw[e,ok']
   exact(zu AH) (k+i) hi') (zu EV)
  rw[List.length_drop] at this
  exact this)
 have RL:=zh (show rr=if(readB (hs.drop k)).2=true then((f,(readB (hs.drop k)).1),true) else((0,zeroB),false) by
  rw[zu RH,zu LH]
  have e:((k:Int)).toNat=k:=by omega
  simp only[e]
  by_cases q:(readB (hs.drop k)).2=true
  ·rw[if_pos ⟨by trivial,sk,q⟩,if_pos q]
  ·rw[if_neg (fun h=>q h.2.2),if_neg q])
 have k0:¬((k:Int)<0):=by omega
 have k1:(k:Int)≤hs.length:=by omega
 generalize readB (hs.drop k)=rb at *
 obtain⟨bb,good⟩:=rb
 clear RH LH GI q0' q1' f0' sk
 go_wp2_with fail
 refine(ISg15.iSegOk _ f true (zu SK)).mono ?_
 rintro e v4 ⟨rfl,rfl⟩
 go_wp2_with fail
 all_goals
  refine(zu SR _ _ (by omega) (by omega)).mono ?_
  rintro e u5 ⟨y,hy,rfl,ry,b5⟩
  have B5:=zh ((zu B4).trans (b5.mono (zu B4).size))
  have K5:=zh ((zu K4).below b5 (zu K4).lt.2)
  have bx:=one_more u5 (.cells #[.slice y.aa y.b.ac.length y.ca,.slice y.ai y.b.ic.length y.ci,.slice y.ab y.b.bs.length y.cb,.slice y.al y.b.ls.length y.cl,.slice y.ats y.b.ts.length y.ct,.int .i64 y.b.lot] 32)
  have B6:=zh ((zu B5).trans (bx.mono (zu B5).size))
  have K6:=zh ((zu K5).below bx (zu K5).lt.2)
  have R6:=zh (ry.step bx)
  have HY:=zh hy
  have y0:(u5.alloc (.cells #[.slice y.aa y.b.ac.length y.ca,.slice y.ai y.b.ic.length y.ci,.slice y.ab y.b.bs.length y.cb,.slice y.al y.b.ls.length y.cl,.slice y.ats y.b.ts.length y.ct,.int .i64 y.b.lot] 32)).cell? ⟨u5.heap.size,0,none⟩=some (.slice y.aa y.b.ac.length y.ca):=by simp
  have us5:=b5.size
  clear b5 bx ry hy B4 K4 SR AH B5 K5 y0
  cases good with
  |false=>
   have E:=zh (show rr=((0,zeroB),false) by rw[zu RL,if_neg (by simp)])
   clear RL
   have f0:=(zu K6).free 0
   have q0:=(zu K6).c0
   have f1:=(zu K6).free 1
   have q1:=(zu K6).c1
   have f2:=(zu K6).free 2
   have q2:=(zu K6).c2
   have f3:=(zu K6).free 3
   have q3:=(zu K6).c3
   have f4:=(zu K6).free 4
   have q4:=(zu K6).c4
   have f5:=(zu K6).free 5
   have q5:=(zu K6).c5
   have f6:=(zu K6).free 6
   have q6:=(zu K6).c6
   have FZ:=zh (zfin (zu B6) (zu K6))
   go_wp2
   generalize ((((((((u5.alloc (.cells #[.slice y.aa y.b.ac.length y.ca,.slice y.ai y.b.ic.length y.ci,.slice y.ab y.b.bs.length y.cb,.slice y.al y.b.ls.length y.cl,.slice y.ats y.b.ts.length y.ct,.int .i64 y.b.lot] 32))).setCell ⟨w.heap.size+1,0,none⟩ (.int .i64 0)).setCell ⟨w.heap.size+1,1,none⟩ (.slice none 0 0)).setCell ⟨w.heap.size+1,2,none⟩ (.slice none 0 0)).setCell ⟨w.heap.size+1,3,none⟩ (.slice none 0 0)).setCell ⟨w.heap.size+1,4,none⟩ (.slice none 0 0)).setCell ⟨w.heap.size+1,5,none⟩ (.slice none 0 0)).setCell ⟨w.heap.size+1,6,none⟩ (.int .i64 0)=U at *
   clear f0 q0 f1 q1 f2 q2 f3 q3 f4 q4 f5 q5 f6 q6
   have r0:=(zu FZ).2.c0
   have r1:=(zu FZ).2.c1
   have r2:=(zu FZ).2.c2
   have r3:=(zu FZ).2.c3
   have r4:=(zu FZ).2.c4
   have r5:=(zu FZ).2.c5
   have r6:=(zu FZ).2.c6
   refine bodyPost_ret (v:= .tuple #[.agg #[.int .i64 0,.slice none 0 0,.slice none 0 0,.slice none 0 0,.slice none 0 0,.slice none 0 0,.int .i64 0],.bool false]) (by simp[results,Tryz.results7,go_sem,r0,r1,r2,r3,r4,r5,r6]) rfl ?_
   rw[zu E]
   exact own_no rfl (zu FZ).1
  |true=>
   have E:=zh (show rr=((f,bb),true) by rw[zu RL,if_pos rfl])
   clear RL
   have f0:=(zu K6).free 0
   have q0:=(zu K6).c0
   have f1:=(zu K6).free 1
   have q1:=(zu K6).c1
   have f2:=(zu K6).free 2
   have q2:=(zu K6).c2
   have f3:=(zu K6).free 3
   have q3:=(zu K6).c3
   have f4:=(zu K6).free 4
   have q4:=(zu K6).c4
   have f5:=(zu K6).free 5
   have q5:=(zu K6).c5
   have f6:=(zu K6).free 6
   have q6:=(zu K6).c6
   have FZ:=zh (yfinO (zu B6) (zu K6) f y (zu R6) (by omega))
   go_wp2
   generalize ((((((((u5.alloc (.cells #[.slice y.aa y.b.ac.length y.ca,.slice y.ai y.b.ic.length y.ci,.slice y.ab y.b.bs.length y.cb,.slice y.al y.b.ls.length y.cl,.slice y.ats y.b.ts.length y.ct,.int .i64 y.b.lot] 32))).setCell ⟨w.heap.size+1,0,none⟩ (.int .i64 f)).setCell ⟨w.heap.size+1,1,none⟩ (.slice y.aa y.b.ac.length y.ca)).setCell ⟨w.heap.size+1,2,none⟩ (.slice y.ai y.b.ic.length y.ci)).setCell ⟨w.heap.size+1,3,none⟩ (.slice y.ab y.b.bs.length y.cb)).setCell ⟨w.heap.size+1,4,none⟩ (.slice y.al y.b.ls.length y.cl)).setCell ⟨w.heap.size+1,5,none⟩ (.slice y.ats y.b.ts.length y.ct)).setCell ⟨w.heap.size+1,6,none⟩ (.int .i64 y.b.lot)=U at *
   clear f0 q0 f1 q1 f2 q2 f3 q3 f4 q4 f5 q5 f6 q6
   have r0:=(zu FZ).2.1.c0
   have r1:=(zu FZ).2.1.c1
   have r2:=(zu FZ).2.1.c2
   have r3:=(zu FZ).2.1.c3
   have r4:=(zu FZ).2.1.c4
   have r5:=(zu FZ).2.1.c5
   have r6:=(zu FZ).2.1.c6
   refine bodyPost_ret (v:= .tuple #[.agg #[.int .i64 f,.slice y.aa y.b.ac.length y.ca,.slice y.ai y.b.ic.length y.ci,.slice y.ab y.b.bs.length y.cb,.slice y.al y.b.ls.length y.cl,.slice y.ats y.b.ts.length y.ct,.int .i64 y.b.lot],.bool true]) (by simp[results,Tryz.results7,go_sem,r0,r1,r2,r3,r4,r5,r6]) rfl ?_
   rw[zu E]
   exact⟨y,zu HY,rfl,(zu FZ).2.2,(zu FZ).1⟩
end ISaveLoad16
end Go.Proofs.YtagmnociflkhcaaGreatDoor
