/- Texts of one proof, one behind the other: STrd, Post2, SPost, Shorts, SBk, SIssue, TBox, STell, LawT, LegApp, SLegs, SCarry, SCarryP, SMove, SSettle, ICmdF, IPostB, ITakeBk, IOpenBk, Concat3, ISet, IEnd, TradesOpenI, IssueTellI. -/
import Derived.Test.YtpkgkekonhgonaaGreatDoorRows
import Derived.Test.YtpkgkekonhgonaaGreatDoorCards
import Derived.Test.YtpkgkekonhgonaaGreatDoorTie
import Derived.Test.YtpkgkekonhgonaaGreatDoorBA1
import Derived.Test.YtpkgkekonhgonaaGreatDoorBA2
import Derived.Test.YtpkgkekonhgonaaGreatDoorBL3
import Derived.Test.YtpkgkekonhgonaaGreatDoorBL4
import Derived.Test.YtpkgkekonhgonaaGreatDoorBL5
import Derived.Test.YtpkgkekonhgonaaGreatDoorBL6
import Derived.Deep.RegionHeld3
import Derived.Maps.AppendAt
import Derived.Deep.AppendLies
import Derived.Lib.AppendZerosOnto
import Derived.Lib.AppendZeros
set_option linter.unusedVariables false
set_option linter.unusedSimpArgs false
open Go.ChangeShapes Go.WideShapes Go.ChangeAt Go.RowKit
set_option maxRecDepth 100000
set_option maxHeartbeats 32000000
namespace Go.Proofs.YtpkgkekonhgonaaGreatDoor
namespace STrd
open BMem Bks ILists IBalsFit Ans Trd
open Lots (Says says_of NoOk)
open Tup8 (T8 el8)
theorem sFind(w:World)(x:Bx)(no:Int)(h:Rd w x):
  Calls Tryz.prog 76 #[.agg #[.slice (some ⟨x.ga,0,none⟩) x.b.ac.length x.ca,.slice (some ⟨x.gi,0,none⟩) x.b.ic.length x.ci,.slice (some ⟨x.gb,0,none⟩) x.b.bs.length x.cb,.slice (some ⟨x.gl,0,none⟩) x.b.ls.length x.cl,.slice (some ⟨x.gt,0,none⟩) x.b.ts.length x.ct,.int .i64 x.b.lot],.int .i64 no] w fun e w'=>∃r,FoundAt x.b.ts no r∧e= .returned (.int .i64 r)∧Below w.heap.size w w':=by
 have S0:=zh (St.start h 40)
 have nt:=h.nt
 clear h
 go_enter Tryz.func76,Tryz.ntmps76
 go_wp2
 go_loopw [5] (fun i wr=>∃(k:Nat),k≤x.b.ts.length∧i= .int .i64 k∧St w wr x∧Hid (∀j,j<k→(el8 x.b.ts j).1≠no)) (fun i _=>x.b.ts.length-(intOf i).toNat)
 case atStart=>exact⟨0,by omega,rfl,zu S0,zh (fun i hi=>absurd hi (by omega))⟩
 case round=>
  obtain⟨k,hk,rfl,hS,HG⟩:=hrel
  clear S0
  obtain⟨c0,c1,c2,c3,c4,c5⟩:=hS.c
  by_cases t:k<x.b.ts.length
  ·obtain⟨d0,d1,d2,d3,d4,d5,d6,d7⟩:=(hS.r.rt k t)
   have S1:=zh hS
   obtain⟨y,hy⟩:∃y,Hid ((el8 x.b.ts k).1=y):=⟨_,rfl⟩
   rw[zu hy] at d0
   clear hS d1 d2 d3 d4 d5 d6 d7
   by_cases q:y=no
   ·have F:=zh (show FoundAt x.b.ts no k from .inl ⟨k,⟨t,(zu hy).trans q,zu HG⟩,rfl⟩)
    have hq:(y==no)=true:=by simp[q]
    clear q hy HG
    go_wp2
    go_ret
    exact⟨k,zu F,rfl,(zu S1).b⟩
   ·have G:=zh (show ∀j,j<k+1→(el8 x.b.ts j).1≠no from fun j hj=>by
     by_cases e:j=k
     ·subst e;rw[zu hy];exact q
     ·exact(zu HG) j (by omega))
    have hq:(y==no)=false:=by simp[q]
    clear q hy HG
    go_wp2
    go_roundw
    case rel=>exact⟨k+1,by omega,by go_num,zu S1,G⟩
    case measure=>simp[intOf];omega
  ·have F:=zh (show FoundAt x.b.ts no (-1) from .inr ⟨fun j hj=>(zu HG) j (by omega),rfl⟩)
   have S1:=zh hS
   clear hS HG
   go_wp2
   go_ret
   exact⟨-1,zu F,rfl,(zu S1).b⟩
theorem sOpenAt(w:World)(x:Bx)(no:Int)(h:Rd w x):
  Calls Tryz.prog 26 #[.agg #[.slice (some ⟨x.ga,0,none⟩) x.b.ac.length x.ca,.slice (some ⟨x.gi,0,none⟩) x.b.ic.length x.ci,.slice (some ⟨x.gb,0,none⟩) x.b.bs.length x.cb,.slice (some ⟨x.gl,0,none⟩) x.b.ls.length x.cl,.slice (some ⟨x.gt,0,none⟩) x.b.ts.length x.ct,.int .i64 x.b.lot],.int .i64 no] w fun e w'=>∃r c,OpenAt x.b.ts no r c∧e= .returned (.tuple #[.int .i64 r,.int .i64 c])∧Below w.heap.size w w':=by
 have S0:=zh (St.start h 40)
 have nt:=h.nt
 clear h
 go_enter Tryz.func26,Tryz.ntmps26
 go_wp2_with fail
 refine(sFind _ x no (zu S0).r).mono ?_
 rintro e w1 ⟨r,hf,rfl,bb⟩
 have S1:=zh ((zu S0).step bb)
 clear bb S0
 obtain⟨c0,c1,c2,c3,c4,c5⟩:=(zu S1).c
 rcases hf with⟨k,hk,rfl⟩|⟨hn,rfl⟩
 ·have t:=hk.1
  obtain⟨d0,d1,d2,d3,d4,d5,d6,d7⟩:=((zu S1).r.rt k t)
  have K:=zh hk
  obtain⟨y,hy⟩:∃y,Hid ((el8 x.b.ts k).2.2.2.2.2.2.2=y):=⟨_,rfl⟩
  rw[zu hy] at d7
  clear hk d0 d1 d2 d3 d4 d5 d6
  by_cases q:y=1
  ·have F:=zh (show OpenAt x.b.ts no k 0 from .inr ⟨k,zu K,rfl,.inr ⟨(zu hy).trans q,rfl⟩⟩)
   have hq:(y !=1)=false:=by simp[q]
   clear q hy
   go_wp2
   go_ret2
   exact⟨k,0,zu F,rfl,(zu S1).b⟩
  ·have F:=zh (show OpenAt x.b.ts no k 6 from .inr ⟨k,zu K,rfl,.inl ⟨by rw[zu hy];exact q,rfl⟩⟩)
   have hq:(y !=1)=true:=by simp[q]
   clear q hy
   go_wp2
   go_ret2
   exact⟨k,6,zu F,rfl,(zu S1).b⟩
 ·have F:=zh (show OpenAt x.b.ts no (-1) 3 from .inl ⟨hn,rfl,rfl⟩)
  clear hn
  go_wp2
  go_ret2
  exact⟨-1,3,zu F,rfl,(zu S1).b⟩
end STrd
namespace Post2
open Bals Triples Cmp SOk3 IOk3 Tab Look SPut3 Out Legs Post
theorem iLacks(w:World)(B n gL m capL gS s capS:Nat)(f:Int→Int→Int)(ls:List T3)(xs:List Int)(b:Bool)(hl:ls.length=m)(hs:xs.length=s)(s20:s≤20)(hg:gL<w.heap.size)(hgs:gS<w.heap.size)(h:At3 w gL ls)(hx:Ints.At w gS xs)(hF:Formed ls)(ht:Tab w B n f)(hb:Says b (Lacks f ls xs)):
  Calls Tryz.prog 236 #[.map (some B),.slice (some ⟨gL,0,none⟩) m capL,.slice (some ⟨gS,0,none⟩) s capS] w fun e w'=>e= .returned (.bool b)∧Below w.heap.size w w':=by
 have m160:m≤160:=by have:=hF.1;omega
 have H:=zh h
 have HX:=zh hx
 have HF:=zh hF
 have T0:=zh ht
 have HS:=zh hb
 clear h hF ht hx hb
 go_enter Tryz.func236,Tryz.ntmps236
 go_wp2
 go_loopw [8,11] (fun _ j wr=>∃(k:Nat),k≤m∧j= .int .i64 k∧Hid (Below w.heap.size w wr)∧Hid (∀j,j<k→¬(f (el3 ls j).1 (el3 ls j).2.1<0∧(el3 ls j).1∉xs))) (fun _ j _=>m-(intOf j).toNat)
 case atStart=>exact⟨0,by omega,rfl,zh (Below.refl _ _),zh (fun j hj=>by omega)⟩
 case round=>
  obtain⟨k,hk,rfl,HB,HG⟩:=hrel
  by_cases t:k<m
  ·obtain⟨e1,e2,e3⟩:=(zu H).below (zu HB) hg k (by omega)
   obtain⟨l1,l2,l3⟩:=(zu HF).2 k (by omega)
   have WF:=wf_no l1 l2
   obtain⟨c,SC⟩:=says_of ((el3 ls k).1∈xs)
   have YES:=zh (show f (el3 ls k).1 (el3 ls k).2.1<0∧(el3 ls k).1∉xs→b=true from fun q=>(zu HS).of ⟨k,by omega,q.1,q.2⟩)
   have GO:=zh (show ¬(f (el3 ls k).1 (el3 ls k).2.1<0∧(el3 ls k).1∉xs)→∀j,j<k+1→¬(f (el3 ls j).1 (el3 ls j).2.1<0∧(el3 ls j).1∉xs) from fun q j hj=>by
    by_cases e:j=k
    ·subst e;exact q
    ·exact(zu HG) j (by omega))
   have bs:=(zu HB).size
   have X1:=zh ((zu HX).below (next (zu HB) (one_more wr (.cells #[.int .i64 (el3 ls k).1,.int .i64 (el3 ls k).2.1,.int .i64 (el3 ls k).2.2] 67))) hgs)
   have T1:=zh ((zu T0).below (next (zu HB) (one_more wr (.cells #[.int .i64 (el3 ls k).1,.int .i64 (el3 ls k).2.1,.int .i64 (el3 ls k).2.2] 67))))
   have B1:=zh ((zu HB).alloc bs (.cells #[.int .i64 (el3 ls k).1,.int .i64 (el3 ls k).2.1,.int .i64 (el3 ls k).2.2] 67))
   clear l1 l2 l3
   generalize (el3 ls k).1=x at *
   generalize (el3 ls k).2.1=y at *
   generalize (el3 ls k).2.2=z at *
   generalize hv:f x y=v at *
   have HV:=zh hv
   clear hv
   by_cases v0:v<0
   ·cases c
    ·obtain rfl:b=true:=(zu YES) ⟨v0,SC.no⟩
     clear YES GO
     go_wp2_with (first|(at_lookup;refine wp_look _ rfl _ _ 155 rfl Tryz.underlying155 B n f rfl (zu T1) x y rfl WF ?_;rw[zu HV])|(go_at_call 89;refine(iHas _ gS s capS xs x false hs (by omega) (zu X1) SC).mono ?_;rintro e w2 ⟨rfl,rfl⟩)|go_in)
     go_ret
     exact⟨rfl,zu B1⟩
    ·have G:=zh ((zu GO) (fun q=>q.2 SC.yes))
     clear YES GO
     go_wp2_with (first|(at_lookup;refine wp_look _ rfl _ _ 155 rfl Tryz.underlying155 B n f rfl (zu T1) x y rfl WF ?_;rw[zu HV])|(go_at_call 89;refine(iHas _ gS s capS xs x true hs (by omega) (zu X1) SC).mono ?_;rintro e w2 ⟨rfl,rfl⟩)|go_in)
     go_roundw
     case rel=>exact⟨k+1,by omega,by go_num,B1,G⟩
     case measure=>simp[intOf];omega
   ·have G:=zh ((zu GO) (fun q=>v0 q.1))
    clear YES GO
    go_wp2_with (first|(at_lookup;refine wp_look _ rfl _ _ 155 rfl Tryz.underlying155 B n f rfl (zu T1) x y rfl WF ?_;rw[zu HV])|go_in)
    go_roundw
    case rel=>exact⟨k+1,by omega,by go_num,B1,G⟩
    case measure=>simp[intOf];omega
  ·obtain rfl:k=m:=by omega
   obtain rfl:b=false:=(zu HS).not (fun r=>by
    obtain⟨j,hj,q⟩:=r
    exact(zu HG) j (by omega) q)
   go_wp2
   go_ret
   exact⟨rfl,zu HB⟩
def IsCode(f:Int→Int→Int)(ls:List T3)(xs:List Int)(w':World)(B:Nat)(c:Int):Prop:=
 (¬Even ls∧c=2)∨
 (Even ls∧posts f ls=none∧c=4)∨
 (∃f',Even ls∧posts f ls=some f'∧Lacks f' ls xs∧c=3)∨
 (∃f' qs,Even ls∧posts f ls=some f'∧¬Lacks f' ls xs∧ListOf f' qs∧¬qs.length≤160∧c=5)∨
 (∃f' qs n,Even ls∧posts f ls=some f'∧¬Lacks f' ls xs∧ListOf f' qs∧qs.length≤160∧n≤1000∧Tab w' B n f'∧c=0)
theorem ints_grown{w w':World}{g B:Nat}{xs:List Int}(h:Ints.At w g xs)(k:w.grownBy w' (some B))(hg:g<w.heap.size)(hne:g≠B):Ints.At w' g xs:=by
 intro i hi
 have e:w'.heap[g]?=w.heap[g]?:=k.block g hg (by simp;exact hne)
 exact(World.cell?_of_block (w:=w) (a:=⟨g,i,none⟩) e).trans (h i hi)
theorem below_row{w w':World}(h:Below w.heap.size w w')(B:Nat):w.grownBy w' (some B):=⟨h.os,h.tape,h.output,h.size,fun j hj _=>h.block j hj⟩
theorem iPost(w:World)(B n gL m capL gS s capS:Nat)(f:Int→Int→Int)(ls:List T3)(xs:List Int)(hl:ls.length=m)(hs:xs.length=s)(s20:s≤20)(hn:n≤200)(hg:gL<w.heap.size)(hgs:gS<w.heap.size)(ne1:gL≠B)(ne2:gS≠B)(h:At3 w gL ls)(hx:Ints.At w gS xs)(hF:Formed ls)(hf:Fine f)(ht:Tab w B n f):
  Calls Tryz.prog 227 #[.map (some B),.slice (some ⟨gL,0,none⟩) m capL,.slice (some ⟨gS,0,none⟩) s capS] w fun e w'=>∃c,e= .returned (.int .i64 c)∧IsCode f ls xs w' B c∧w.grownBy w' (some B):=by
 have m160:m≤160:=by have:=hF.1;omega
 obtain⟨b,SB⟩:=says_of (Even ls)
 have H:=zh h
 have HX:=zh hx
 have HF:=zh hF
 have T0:=zh ht
 have FF:=zh hf
 clear h hF ht hx hf
 go_enter Tryz.func227,Tryz.ntmps227
 go_wp2_with fail
 refine(iEven _ gL m capL ls b hl hg (zu H) (zu HF) SB).mono ?_
 rintro e w1 ⟨rfl,n1⟩
 have A1:=zh ((zu H).below n1 hg)
 have X1:=zh ((zu HX).below n1 hgs)
 have T1:=zh ((zu T0).below n1)
 have G1:=zh (below_row n1 B)
 have s1:=n1.size
 clear n1
 cases b
 ·go_wp2
  go_ret
  exact⟨2,rfl,.inl ⟨SB.no,rfl⟩,zu G1⟩
 go_wp2_with fail
 refine(iAddT _ B n gL m capL f ls hl (by omega) (by omega) ne1 (zu A1) (zu HF) (zu FF) (zu T1)).mono ?_
 rintro e w2 ⟨ok,rfl,hy,hno,g2⟩
 have HY:=zh hy
 have HN:=zh hno
 have A2:=zh (at3_grown (zu A1) g2 (by omega) ne1)
 have X2:=zh (ints_grown (zu X1) g2 (by omega) ne2)
 have G2:=zh (grown_trans (zu G1) g2)
 have s2:=g2.size
 clear hy hno g2
 cases ok
 ·have E:=zh ((zu HN) rfl)
  clear HY HN
  go_wp2
  go_ret
  exact⟨4,rfl,.inr (.inl ⟨SB.yes,zu E,rfl⟩),zu G2⟩
 obtain⟨f',E,t2,fi⟩:=(zu HY) rfl
 have T2:=zh t2
 have EE:=zh E
 clear HY HN t2 fi E
 obtain⟨c,SC⟩:=says_of (Lacks f' ls xs)
 go_wp2_with fail
 refine(iLacks _ B (n+m) gL m capL gS s capS f' ls xs c hl hs s20 (by omega) (by omega) (zu A2) (zu X2) (zu HF) (zu T2) SC).mono ?_
 rintro e w3 ⟨rfl,n3⟩
 have T3:=zh ((zu T2).below n3)
 have G3:=zh (grown_trans (zu G2) (below_row n3 B))
 clear n3
 cases c
 ·go_wp2_with fail
  refine(iBals _ B (n+m) f' (by omega) (zu T3)).mono ?_
  rintro e w4 ⟨qs,g4,c4,lo,ll,rfl,o4,n4⟩
  have LO:=zh lo
  have T4:=zh ((zu T3).below n4)
  have G4:=zh (grown_trans (zu G3) (below_row n4 B))
  clear lo o4 n4
  by_cases ln:qs.length≤160
  ·have ln2:¬(160:Int)<(qs.length:Int):=by omega
   go_wp2
   go_ret
   exact⟨0,rfl,.inr (.inr (.inr (.inr ⟨f',qs,n+m,SB.yes,zu EE,SC.no,zu LO,ln,by omega,zu T4,rfl⟩))),zu G4⟩
  ·have ln2:(160:Int)<(qs.length:Int):=by omega
   go_wp2
   go_ret
   exact⟨5,rfl,.inr (.inr (.inr (.inl ⟨f',qs,SB.yes,zu EE,SC.no,zu LO,ln,rfl⟩))),zu G4⟩
 ·go_wp2
  go_ret
  exact⟨3,rfl,.inr (.inr (.inl ⟨f',SB.yes,zu EE,SC.yes,rfl⟩)),zu G3⟩
def PostAnswers(w:World)(ps ls:List T3)(xs:List Int)(e:Ending)(w':World):Prop:=
 ∃qs c g cap,IsPost ps ls xs qs c∧e= .returned (.tuple #[.slice (some ⟨g,0,none⟩) qs.length cap,.int .i64 c])∧Own3 70 w' w.heap.size g qs.length cap qs∧Below w.heap.size w w'
theorem none_posted{w u:World}{ps ls:List T3}{xs:List Int}(hp:IsPost ps ls xs [] 1)(hb:Below w.heap.size w u):PostAnswers w ps ls xs (.returned (.tuple #[.slice (some ⟨u.heap.size,0,none⟩) 0 0,.int .i64 1])) (u.alloc (.cells #[] 70)):=
 ⟨[],1,u.heap.size,0,hp,rfl,lit30 _ _ _ hb.size,hb.alloc hb.size _⟩
theorem iBalsPost(w:World)(g n cap gL m capL gS s capS:Nat)(ps ls:List T3)(xs:List Int)(hp:ps.length=n)(hl:ls.length=m)(hs:xs.length=s)(n20:n≤1048576)(m20:m≤1048576)(s20:s≤1048576)
  (hg:g<w.heap.size)(hgL:gL<w.heap.size)(hgS:gS<w.heap.size)(h:At3 w g ps)(hL:At3 w gL ls)(hX:Ints.At w gS xs):
  Calls Tryz.prog 221 #[.slice (some ⟨g,0,none⟩) n cap,.slice (some ⟨gL,0,none⟩) m capL,.slice (some ⟨gS,0,none⟩) s capS] w (PostAnswers w ps ls xs):=by
 obtain⟨b0,S0⟩:=says_of (Right ps)
 obtain⟨b1,S1⟩:=says_of (Formed ls)
 have BAD:=zh (show ¬(b0=true∧b1=true∧s≤20)→IsPost ps ls xs [] 1 from fun hb=> .bad (fun r=>hb ⟨S0.of r.1,S1.of r.2.1,by omega⟩))
 have H:=zh h
 have HL:=zh hL
 have HX:=zh hX
 clear h hL hX
 go_enter Tryz.func221,Tryz.ntmps221
 go_wp2_with fail
 refine(iOk _ g n cap ps b0 hp n20 hg (zu H) S0).mono ?_
 rintro e w1 ⟨rfl,n1⟩
 have A1:=zh ((zu H).below n1 hg)
 have L1:=zh ((zu HL).below n1 hgL)
 have X1:=zh ((zu HX).below n1 hgS)
 have B1:=zh n1
 have s1:=n1.size
 clear n1
 cases b0
 ·have P0:=zh ((zu BAD) (fun q=>by cases q.1))
  go_wp2
  go_ret2
  exact none_posted (zu P0) (zu B1)
 go_wp2_with fail
 refine(iFormed _ gL m capL ls b1 hl m20 (by omega) (zu L1) S1).mono ?_
 rintro e w2 ⟨rfl,n2⟩
 have A2:=zh ((zu A1).below n2 (by omega))
 have L2:=zh ((zu L1).below n2 (by omega))
 have X2:=zh ((zu X1).below n2 (by omega))
 have B2:=zh (next (zu B1) n2)
 have s2:=n2.size
 clear n2
 cases b1
 ·have P0:=zh ((zu BAD) (fun q=>by cases q.2.1))
  go_wp2
  go_ret2
  exact none_posted (zu P0) (zu B2)
 by_cases ts:s≤20
 ·have ts2:¬(20:Int)<(s:Int):=by omega
  have ALL:=zh (show Right ps∧Formed ls∧xs.length≤20 from⟨S0.yes,S1.yes,by omega⟩)
  have n160:n≤160:=by have:=S0.yes.1;omega
  have FF:=zh (fine_of S0.yes)
  clear BAD
  go_wp2_with fail
  refine(iTable _ g n cap ps hp (by omega) (zu A2) S0.yes).mono ?_
  rintro e w3 ⟨rfl,t3,n3⟩
  have A3:=zh ((zu A2).below n3 (by omega))
  have L3:=zh ((zu L2).below n3 (by omega))
  have X3:=zh ((zu X2).below n3 (by omega))
  have B3:=zh (next (zu B2) n3)
  have T3:=zh t3
  have s3:=n3.size
  have tl:=t3.lt
  clear n3 t3
  go_wp2_with fail
  refine(iPost _ w2.heap.size n gL m capL gS s capS (val ps) ls xs hl hs ts (by omega) (by omega) (by omega) (by omega) (by omega) (zu L3) (zu X3) S1.yes (zu FF) (zu T3)).mono ?_
  rintro e w4 ⟨c,rfl,hc,g4⟩
  have A4:=zh (at3_grown (zu A3) g4 (by omega) (by omega))
  have B4:=zh ((zu B3).grown g4 (zu B3).size (fun j hj=>by cases hj;omega))
  have s4:=g4.size
  have b4:=(zu B4).size
  have HC:=zh hc
  clear g4 hc
  by_cases c0:c=0
  ·subst c0
   have TT:=zh (show ∃f' qs k,Even ls∧posts (val ps) ls=some f'∧¬Lacks f' ls xs∧ListOf f' qs∧qs.length≤160∧k≤1000∧Tab w4 w2.heap.size k f' from by
    rcases zu HC with⟨_,e⟩|⟨_,_,e⟩|⟨_,_,_,_,e⟩|⟨_,_,_,_,_,_,_,e⟩|⟨f',qs,k,a,b,c,d,e,f,g,_⟩
    ·omega
    ·omega
    ·omega
    ·omega
    ·exact⟨f',qs,k,a,b,c,d,e,f,g⟩)
   obtain⟨f',qs,k,EV,EP,NL,LO,LN,k1000,t4⟩:=zu TT
   have T4:=zh t4
   have P0:=zh (IsPost.done f' qs (zu ALL) EV EP NL LO LN)
   have LO:=zh LO
   clear TT HC EV EP NL t4
   go_wp2_with fail
   refine(iBals _ w2.heap.size k f' (by omega) (zu T4)).mono ?_
   rintro e w5 ⟨rs,g5,c5,lo,ll,rfl,o5,n5⟩
   obtain rfl:=(zu LO).same lo
   have O5:=zh (o5.rebase (base':=w.heap.size) (by have:=o5.lt.1;omega))
   have B5:=zh (next (zu B4) n5)
   clear lo o5 n5
   go_wp2
   go_ret2
   exact⟨_,0,g5,c5,zu P0,rfl,zu O5,zu B5⟩
  ·have P0:=zh (show IsPost ps ls xs ps c from by
    rcases zu HC with⟨a,rfl⟩|⟨a,b,rfl⟩|⟨f',a,b,d,rfl⟩|⟨f',qs,a,b,d,e,q,rfl⟩|⟨_,_,_,_,_,_,_,_,_,_,e⟩
    ·exact .uneven (zu ALL) a
    ·exact .large (zu ALL) a b
    ·exact .short f' (zu ALL) a b d
    ·exact .full f' qs (zu ALL) a b d e q
    ·exact absurd e c0)
   have c0b:(c==0)=false:=by simpa using c0
   clear HC
   have Z:=zh (lit30 70 w4 w.heap.size b4)
   have A5:=zh ((zu A4).below (one_more w4 (.cells #[] 70)) (by omega))
   go_wp2_with (first|(at_builtin;refine BalApp.wp_copy _ rfl _ _ rfl w.heap.size w4.heap.size n 0 ps g cap rfl rfl (zu Z) hp (zu A5) (by omega) (by simp;omega) ?_)|go_in)
   intro g6 c6 w6 o6 gr6 _
   have O6:=zh o6
   have B6:=zh (((zu B4).alloc b4 (.cells #[] 70)).grown gr6 (by simp;omega) (fun j hj=>by cases hj;exact b4))
   clear o6 gr6
   go_wp2
   go_ret2
   exact⟨ps,c,g6,c6,zu P0,by rw[hp];rfl,by rw[hp];exact zu O6,zu B6⟩
 ·have ts2:(20:Int)<(s:Int):=by omega
  have P0:=zh ((zu BAD) (fun q=>ts q.2.2))
  go_wp2
  go_ret2
  exact none_posted (zu P0) (zu B2)
end Post2
namespace SPost
open Bals Triples Cmp SOk3 IOk3 Tab Look SPut3 Out Legs Post Post2
theorem ints_drewN{w:World}{g:Nat}{xs:List Int}(h:Ints.At w g xs)(m:Nat):Ints.At (w.drewN m) g xs:=h
theorem sBalsPost(w:World)(g n cap gL m capL gS s capS:Nat)(ps ls:List T3)(xs:List Int)(hp:ps.length=n)(hl:ls.length=m)(hs:xs.length=s)(n20:n≤1048576)(m20:m≤1048576)(s20:s≤1048576)
  (hg:g<w.heap.size)(hgL:gL<w.heap.size)(hgS:gS<w.heap.size)(h:At3 w g ps)(hL:At3 w gL ls)(hX:Ints.At w gS xs):
  Calls Tryz.prog 138 #[.slice (some ⟨g,0,none⟩) n cap,.slice (some ⟨gL,0,none⟩) m capL,.slice (some ⟨gS,0,none⟩) s capS] w (PostAnswers w ps ls xs):=by
 obtain⟨b0,S0⟩:=says_of (Right ps)
 obtain⟨b1,S1⟩:=says_of (Formed ls)
 have BAD:=zh (show ¬(b0=true∧b1=true∧s≤20)→IsPost ps ls xs [] 1 from fun hb=> .bad (fun r=>hb ⟨S0.of r.1,S1.of r.2.1,by omega⟩))
 have H:=zh h
 have HL:=zh hL
 have HX:=zh hX
 clear h hL hX
 go_enter Tryz.func138,Tryz.ntmps138
 go_wp2_with fail
 refine(sOk _ g n cap ps b0 hp n20 hg (zu H) S0).mono ?_
 rintro e w1 ⟨rfl,n1⟩
 have A1:=zh ((zu H).below n1 hg)
 have L1:=zh ((zu HL).below n1 hgL)
 have B1:=zh n1
 have s1:=n1.size
 clear n1
 cases b0
 ·have P0:=zh ((zu BAD) (fun q=>by cases q.1))
  go_wp2
  go_ret2
  exact none_posted (zu P0) (zu B1)
 go_wp2_with fail
 refine(sRight _ gL m capL ls b1 hl m20 (zu L1) S1).mono ?_
 rintro e w2 ⟨rfl,rfl⟩
 cases b1
 ·have P0:=zh ((zu BAD) (fun q=>by cases q.2.1))
  go_wp2
  go_ret2
  exact none_posted (zu P0) (zu B1)
 by_cases ts:¬s≤20
 ·have ts2:(20:Int)<(s:Int):=by omega
  have P0:=zh ((zu BAD) (fun q=>ts q.2.2))
  go_wp2
  go_ret2
  exact none_posted (zu P0) (zu B1)
 have ts:s≤20:=by omega
 have ts2:¬(20:Int)<(s:Int):=by omega
 have ALL:=zh (show Right ps∧Formed ls∧xs.length≤20 from⟨S0.yes,S1.yes,by omega⟩)
 have n160:n≤160:=by have:=S0.yes.1;omega
 have m160:m≤160:=by have:=S1.yes.1;omega
 have FF:=zh (fine_of S0.yes)
 clear BAD
 have bq:=(zu B1).size
 have Z:=zh (lit30 70 w2 w.heap.size bq)
 have A5:=zh ((zu A1).below (one_more w2 (.cells #[] 70)) (by omega))
 go_wp2_with (first|(at_builtin;refine BalApp.wp_copy _ rfl _ _ rfl w.heap.size w2.heap.size n 0 ps g cap rfl rfl (zu Z) hp (zu A5) (by omega) (by simp;omega) ?_)|go_in)
 intro g6 c6 w6 o6 gr6 _
 have O6:=zh o6
 have B6:=zh (((zu B1).alloc bq (.cells #[] 70)).grown gr6 (by simp;omega) (fun j hj=>by cases hj;exact bq))
 clear o6 gr6
 have gl6:=(zu O6).lt.2
 have b6:=(zu B6).size
 obtain⟨b,SB⟩:=says_of (Formed ls∧Even ls)
 go_wp2_with fail
 refine(sLegsOk _ gL m capL ls b hl m20 ((zu HL).below (zu B6) hgL) SB).mono ?_
 rintro e w7 ⟨rfl,q7,rfl⟩
 have O7:=zh (show Own3 70 (w6.drewN q7) w.heap.size g6 n c6 ps from zu O6)
 have B7:=zh (below_drewN (zu B6) q7)
 generalize w6.drewN q7=w7 at *
 clear A1 L1 B1 Z A5 B6 O6 gl6 b6 bq s1
 cases b
 ·have P0:=zh (IsPost.uneven (zu ALL) (fun e=>SB.no ⟨S1.yes,e⟩))
  go_wp2
  go_ret2
  exact⟨ps,2,g6,c6,zu P0,by rw[hp];rfl,by rw[hp];exact zu O7,zu B7⟩
 have EV:=zh SB.yes.2
 go_wp2
 go_loopw [9,10,11,12] (fun l j _ _ wr=>∃(out:List T3) (gO cO k:Nat),l= .slice (some ⟨gO,0,none⟩) out.length cO∧j= .int .i64 k∧k≤m∧out.length≤160+k∧Hid (Own3 70 wr w.heap.size gO out.length cO out)∧Hid (Below w.heap.size w wr)∧Hid (Bals.Good out)∧Hid (Fine (val out))∧Hid (posts (val ps) ls=posts (val out) (ls.drop k))) (fun _ j _ _ _=>m-(intOf j).toNat)
 case atStart=>exact⟨ps,g6,c6,0,by rw[hp],rfl,by omega,by omega,zh (by rw[hp];exact zu O7),B7,zh S0.yes.good,FF,zh rfl⟩
 case round=>
  clear O7 B7
  obtain⟨out,gO,cO,k,rfl,rfl,hk,ol,HO,HB,GD,FN,HE⟩:=hrel
  have gol:=(zu HO).lt.2
  have bs:=(zu HB).size
  by_cases t:k<m
  ·obtain⟨e1,e2,e3⟩:=(zu HL).below (zu HB) hgL k (by omega)
   obtain⟨l1,l2,l3⟩:=S1.yes.2 k (by omega)
   have AM:=((zu FN) (el3 ls k).1 (el3 ls k).2.1).1
   obtain⟨c,SC⟩:=says_of (Amt (val out (el3 ls k).1 (el3 ls k).2.1+(el3 ls k).2.2))
   have PY:=zh (fun a=>(zu HE).trans (posts_yes (f:=val out) (ps:=ls) (k:=k) (by omega) a))
   have PN:=zh (fun a=>(zu HE).trans (posts_no (f:=val out) (ps:=ls) (k:=k) (by omega) a))
   have FU:=zh (fun a=>(zu FN).upd (a:=(el3 ls k).1) (i:=(el3 ls k).2.1) (x:=val out (el3 ls k).1 (el3 ls k).2.1+(el3 ls k).2.2) l1 l2 a)
   have OFC:=zh (fun q=>sOf (wr.drewN q) gO out.length cO out (el3 ls k).1 (el3 ls k).2.1 rfl (by omega) (at_drewN (zu HO).at q))
   clear HE FN
   generalize (el3 ls k).1=x at *
   generalize (el3 ls k).2.1=y at *
   generalize (el3 ls k).2.2=z at *
   generalize hv:val out x y=v at *
   have HV:=zh hv
   clear hv
   have kn:(k:Int)<(m:Int):=by omega
   go_wp2_with fail
   go_quiet (first|(go_at_call 30;refine Calls.quiet_of_same ((zu OFC) _))|(go_at_call 171;refine Calls.quiet_of_same (sAdd v z c _ AM l3 SC)))
   have O1:=zh (show Own3 70 (wr.drewN nq) w.heap.size gO out.length cO out from zu HO)
   have B1:=zh (below_drewN (zu HB) nq)
   have d1:(wr.drewN nq).cell? ⟨gL,k*3,none⟩=some (.int .i64 x):=e1
   have d2:(wr.drewN nq).cell? ⟨gL,k*3+1,none⟩=some (.int .i64 y):=e2
   clear HO HB e1 e2 e3 OFC
   generalize wr.drewN nq=u at *
   have gol:=(zu O1).lt.2
   have bs:=(zu B1).size
   cases c
   ·have P0:=zh (IsPost.large (zu ALL) (zu EV) ((zu PN) SC.no))
    have A1:=zh ((zu H).below (zu B1) hg)
    clear PY PN FU d1 d2
    have bq:=(zu B1).size
    have Z:=zh (lit30 70 u w.heap.size bq)
    have A5:=zh ((zu A1).below (one_more u (.cells #[] 70)) (by omega))
    go_wp2_with (first|(at_builtin;refine BalApp.wp_copy _ rfl _ _ rfl w.heap.size u.heap.size n 0 ps g cap rfl rfl (zu Z) hp (zu A5) (by omega) (by simp;omega) ?_)|go_in)
    intro g6 c6 w6 o6 gr6 _
    have O6:=zh o6
    have B6:=zh (((zu B1).alloc bq (.cells #[] 70)).grown gr6 (by simp;omega) (fun j hj=>by cases hj;exact bq))
    clear o6 gr6
    go_wp2
    go_ret2
    exact⟨ps,4,g6,c6,zu P0,by rw[hp];rfl,by rw[hp];exact zu O6,zu B6⟩
   ·have YES:=zh ((zu PY) SC.yes)
    have FN2:=zh ((zu FU) SC.yes)
    clear PY PN FU
    have e0:sumIn v z true=v+z:=rfl
    rw[e0]
    clear e0
    generalize hS:v+z=S at *
    clear hS
    obtain⟨p0,hp0⟩:∃p0:Bool,(S==0)=p0:=⟨_,rfl⟩
    have PV:=zh (put_val (x,y,S) out p0 (zu GD) (by rw[←hp0];simp))
    have LN:=zh (putL_len (x,y,S) out p0)
    have HP:=zh hp0
    clear hp0
    have k0:(0:Int)≤(k:Int):=by omega
    have gLu:gL<u.heap.size:=by omega
    go_wp2_with fail
    go_region_held3 (fun w'=>w'.cell? ⟨gL,k*3,none⟩=some (.int .i64 x)∧w'.cell? ⟨gL,k*3+1,none⟩=some (.int .i64 y)) (go_keep)
     (first|(go_at_call 29;refine(sPut _ gO out.length cO out x y S p0 rfl (by omega) (by exact gol) (by exact(zu O1).at) (zu HP)).mono ?_;rintro e w5 ⟨g5,c5,rfl,o5,n5⟩;have h1:w5.cell? ⟨gL,k*3,none⟩=some (.int .i64 x):=(n5.cell (p:=⟨gL,k*3,none⟩) (by exact gLu)).trans (by exact d1);have h2:w5.cell? ⟨gL,k*3+1,none⟩=some (.int .i64 y):=(n5.cell (p:=⟨gL,k*3+1,none⟩) (by exact gLu)).trans (by exact d2)))
    have O5:=zh (o5.rebase (base':=w.heap.size) (by have:u.heap.size≤g5:=o5.lt.1;omega))
    have B5:=zh (next (zu B1) (show Below u.heap.size u w5 from⟨n5.os,n5.tape,n5.output,n5.size,n5.block⟩))
    have VE:val (putL (x,y,S) out p0)=upd (val out) x y S:=funext fun b=>funext fun j=>(zu PV).2 b j
    have FN3:=zh (show Fine (val (putL (x,y,S) out p0)) from by rw[VE];exact zu FN2)
    have YE3:=zh (show posts (val ps) ls=posts (val (putL (x,y,S) out p0)) (ls.drop (k+1)) from by rw[VE];exact zu YES)
    have LL:(putL (x,y,S) out p0).length≤out.length+1:=by have:=zu LN;split at this<;>omega
    have GD3:=zh (zu PV).1
    clear o5 n5 VE PV LN YES FN2 d1 d2 O1 B1
    generalize putL (x,y,S) out p0=qs at *
    go_wp2
    go_roundw
    case rel=>exact⟨qs,g5,c5,k+1,rfl,by go_num,by omega,by omega,O5,B5,GD3,FN3,YE3⟩
    case measure=>simp[intOf];omega
  ·obtain rfl:k=m:=by omega
   have EP:=zh (show posts (val ps) ls=some (val out) from by rw[zu HE,List.drop_of_length_le (by omega)];rfl)
   have LO:=zh (show ListOf (val out) out from⟨zu GD,fun _ _=>rfl⟩)
   clear HE
   go_wp2
   generalize wr=w8 at *
   go_loopw [13] (fun j wr=>∃(i:Nat),j= .int .i64 i∧i≤k∧Hid (∃q,wr=w8.drewN q)∧Hid (∀j,j<i→¬(val out (el3 ls j).1 (el3 ls j).2.1<0∧(el3 ls j).1∉xs))) (fun j _=>k-(intOf j).toNat)
   case atStart=>exact⟨0,rfl,by omega,zh ⟨0,rfl⟩,zh (fun j hj=>by omega)⟩
   case round=>
    obtain⟨i,rfl,hi,HQ,HG⟩:=hrel
    obtain⟨q8,e8⟩:=zu HQ
    have O1:=zh (show Own3 70 wr w.heap.size gO out.length cO out from by rw[e8];exact zu HO)
    have B1:=zh (show Below w.heap.size w wr from by rw[e8];exact below_drewN (zu HB) q8)
    clear e8
    have gol:=(zu O1).lt.2
    have bs:=(zu B1).size
    by_cases t:i<k
    ·obtain⟨e1,e2,e3⟩:=(zu HL).below (zu B1) hgL i (by omega)
     obtain⟨c,SC⟩:=says_of ((el3 ls i).1∈xs)
     have YES:=zh (show val out (el3 ls i).1 (el3 ls i).2.1<0∧(el3 ls i).1∉xs→Lacks (val out) ls xs from fun q=>⟨i,by omega,q.1,q.2⟩)
     have GO:=zh (show ¬(val out (el3 ls i).1 (el3 ls i).2.1<0∧(el3 ls i).1∉xs)→∀j,j<i+1→¬(val out (el3 ls j).1 (el3 ls j).2.1<0∧(el3 ls j).1∉xs) from fun q j hj=>by
      by_cases e:j=i
      ·subst e;exact q
      ·exact(zu HG) j (by omega))
     have OFC:=zh (fun q=>sOf (wr.drewN q) gO out.length cO out (el3 ls i).1 (el3 ls i).2.1 rfl (by omega) (at_drewN (zu O1).at q))
     have HAC:=zh (fun q=>sHas (wr.drewN q) gS s capS xs (el3 ls i).1 c hs s20 (ints_drewN ((zu HX).below (zu B1) hgS) q) SC)
     generalize (el3 ls i).1=x at *
     generalize (el3 ls i).2.1=y at *
     generalize (el3 ls i).2.2=z at *
     generalize hv:val out x y=v at *
     have HV:=zh hv
     clear hv
     have kn:(i:Int)<(k:Int):=by omega
     by_cases v0:v<0
     ·cases c
      ·have P0:=zh (IsPost.short (val out) (zu ALL) (zu EV) (zu EP) ((zu YES) ⟨v0,SC.no⟩))
       clear YES GO
       go_wp2_with fail
       go_quiet (first|(go_at_call 30;refine Calls.quiet_of_same ((zu OFC) _))|(go_at_call 27;refine Calls.quiet_of_same ((zu HAC) _)))
       have B2:=zh (below_drewN (zu B1) nq)
       clear O1 B1 e1 e2 e3 OFC HAC
       generalize wr.drewN nq=u at *
       have A1:=zh ((zu H).below (zu B2) hg)
       have bu:=(zu B2).size
       have bq:=(zu B2).size
       have Z:=zh (lit30 70 u w.heap.size bq)
       have A5:=zh ((zu A1).below (one_more u (.cells #[] 70)) (by omega))
       go_wp2_with (first|(at_builtin;refine BalApp.wp_copy _ rfl _ _ rfl w.heap.size u.heap.size n 0 ps g cap rfl rfl (zu Z) hp (zu A5) (by omega) (by simp;omega) ?_)|go_in)
       intro g6 c6 w6 o6 gr6 _
       have O6:=zh o6
       have B6:=zh (((zu B2).alloc bq (.cells #[] 70)).grown gr6 (by simp;omega) (fun j hj=>by cases hj;exact bq))
       clear o6 gr6
       go_wp2
       go_ret2
       exact⟨ps,3,g6,c6,zu P0,by rw[hp];rfl,by rw[hp];exact zu O6,zu B6⟩
      ·have G:=zh ((zu GO) (fun q=>q.2 SC.yes))
       clear YES GO
       go_wp2_with fail
       go_quiet (first|(go_at_call 30;refine Calls.quiet_of_same ((zu OFC) _))|(go_at_call 27;refine Calls.quiet_of_same ((zu HAC) _)))
       go_wp2
       go_roundw
       case rel=>exact⟨i+1,by go_num,by omega,zh (drewN_more (zu HQ) _),G⟩
       case measure=>simp[intOf];omega
     ·have G:=zh ((zu GO) (fun q=>v0 q.1))
      have v0b:decide (v<0)=false:=decide_eq_false v0
      clear YES GO
      go_wp2_with fail
      go_quiet (first|(go_at_call 30;refine Calls.quiet_of_same ((zu OFC) _)))
      go_wp2
      go_roundw
      case rel=>exact⟨i+1,by go_num,by omega,zh (drewN_more (zu HQ) _),G⟩
      case measure=>simp[intOf];omega
    ·obtain rfl:i=k:=by omega
     have NL:=zh (show ¬Lacks (val out) ls xs from fun r=>by
      obtain⟨j,hj,q⟩:=r
      exact(zu HG) j (by omega) q)
     by_cases ln:out.length≤160
     ·have ln2:¬(160:Int)<(out.length:Int):=by omega
      have P0:=zh (IsPost.done (val out) out (zu ALL) (zu EV) (zu EP) (zu NL) (zu LO) ln)
      go_wp2
      go_ret2
      exact⟨out,0,gO,cO,zu P0,rfl,zu O1,zu B1⟩
     ·have ln2:(160:Int)<(out.length:Int):=by omega
      have P0:=zh (IsPost.full (val out) out (zu ALL) (zu EV) (zu EP) (zu NL) (zu LO) ln)
      have A1:=zh ((zu H).below (zu B1) hg)
      have bq:=(zu B1).size
      have Z:=zh (lit30 70 wr w.heap.size bq)
      have A5:=zh ((zu A1).below (one_more wr (.cells #[] 70)) (by omega))
      go_wp2_with (first|(at_builtin;refine BalApp.wp_copy _ rfl _ _ rfl w.heap.size wr.heap.size n 0 ps g cap rfl rfl (zu Z) hp (zu A5) (by omega) (by simp;omega) ?_)|go_in)
      intro g6 c6 w6 o6 gr6 _
      have O6:=zh o6
      have B6:=zh (((zu B1).alloc bq (.cells #[] 70)).grown gr6 (by simp;omega) (fun j hj=>by cases hj;exact bq))
      clear o6 gr6
      go_wp2
      go_ret2
      exact⟨ps,5,g6,c6,zu P0,by rw[hp];rfl,by rw[hp];exact zu O6,zu B6⟩
end SPost
namespace Shorts
open BMem Bks ILists
theorem own_of_row{w:World}{base n n':Nat}{v:Value}{vs:List Value}{xs:List Int}(h:w.ownsRow base 3 1 v n vs)(hn:n=n')(e:vs=xs.map (Value.int .i64))(hv:¬v= .slice none 0 0):
  ∃g c,v= .slice (some ⟨g,0,none⟩) n' c∧Ints.Own w base g n' c xs:=by
 subst hn e
 have h':=h
 rcases h.2 with⟨h1,_⟩|⟨g,c,cur,rfl,_⟩
 ·exact absurd h1 hv
 ·exact⟨g,c,rfl,h'⟩
theorem own_alloc{w:World}{base g n cap:Nat}{xs:List Int}(h:Ints.Own w base g n cap xs)(o:Obj):Ints.Own (w.alloc o) base g n cap xs:=World.ownsRow.alloc h o
theorem lit0(w:World)(base:Nat){g:Nat}(hb:base≤w.heap.size)(hg:g=w.heap.size):Ints.Own (w.alloc (.cells #[] 3)) base g 0 0 []:=by
 subst hg
 exact World.ownsRow_lit w #[] 0 hb (by decide) rfl
theorem wp_appI(u:World){ops:Array Oper}{rest:List Oper}{o:Oper}{a:Act}{Q:Exit→Act→World→Prop}(hgd:o.guard=none)(s x:Operand)
  (ho:o.op= .call {callee:= .builtin .append,args:= #[s,x],argTypes:= #[29,29]})(base g n cap:Nat)(xs:List Int)(vb:Nat)(y:Int)
  (hs:a.eval s= .slice (some ⟨g,0,none⟩) n cap)(hx:a.eval x= .slice (some ⟨vb,0,none⟩) 1 1)(hown:Ints.Own u base g n cap xs)(hv:u.cell? ⟨vb,0,none⟩=some (.int .i64 y))(hn:n≤1048576)(hb:base≤u.heap.size)
  (h:∀g' c' w',Ints.Own w' base g' (n+1) c' (xs++[y])→u.grownBy w' (some g)→(g'=g∨g'=u.heap.size)→wpList Tryz.prog ops Q rest (a.put o.dst (.slice (some ⟨g',0,none⟩) (n+1) c')) w'):wpList Tryz.prog ops Q (o::rest) a u:=by
 obtain⟨i0,hi,hz0,hz1,hz2⟩:=info_parts Ints.info3
 refine wpList_append_own_at u hgd s x 29 ho base 3 i0 (.int .i64 0) 1 8 Tryz.underlying29 hi hz0 hz1 hz2 rfl (by decide) _ n _ hs hown ⟨vb,0,none⟩ 1 1 [.int .i64 y] hx rfl (fun j v hj=>by
  cases j with
  |zero=>
   have e:v= .int .i64 y:=by simpa using hj.symm
   rw[e]
   simpa[Addr.add] using hv
  |succ j=>simp at hj) (by simp[Value.oneCell']) (by unfold maxLen;omega) (by omega) hb ?_
 intro v' w' own' gr' nil' loc'
 obtain⟨g',c',rfl,o'⟩:=own_of_row (n':=n+1) (xs:=xs++[y]) own' rfl (by simp) (by rw[nil'];simp)
 exact h g' c' w' o' gr' (by simpa[Value.ownBlock] using loc')
theorem sShort(w:World)(x:Bx)(h:Rd w x):
  Calls Tryz.prog 139 #[.agg #[.slice (some ⟨x.ga,0,none⟩) x.b.ac.length x.ca,.slice (some ⟨x.gi,0,none⟩) x.b.ic.length x.ci,.slice (some ⟨x.gb,0,none⟩) x.b.bs.length x.cb,.slice (some ⟨x.gl,0,none⟩) x.b.ls.length x.cl,.slice (some ⟨x.gt,0,none⟩) x.b.ts.length x.ct,.int .i64 x.b.lot]] w fun e w'=>∃g c,e= .returned (.slice (some ⟨g,0,none⟩) (shortL x.b.ac).length c)∧Ints.Own w' w.heap.size g (shortL x.b.ac).length c (shortL x.b.ac)∧Below w.heap.size w w':=by
 have na:=h.na
 have la:=h.la
 have R0:=zh ((h.alloc (.cells #[.slice (some ⟨x.ga,0,none⟩) x.b.ac.length x.ca,.slice (some ⟨x.gi,0,none⟩) x.b.ic.length x.ci,.slice (some ⟨x.gb,0,none⟩) x.b.bs.length x.cb,.slice (some ⟨x.gl,0,none⟩) x.b.ls.length x.cl,.slice (some ⟨x.gt,0,none⟩) x.b.ts.length x.ct,.int .i64 x.b.lot] 40)).alloc (.cells #[] 3))
 have O0:=zh (lit0 (w.alloc (.cells #[.slice (some ⟨x.ga,0,none⟩) x.b.ac.length x.ca,.slice (some ⟨x.gi,0,none⟩) x.b.ic.length x.ci,.slice (some ⟨x.gb,0,none⟩) x.b.bs.length x.cb,.slice (some ⟨x.gl,0,none⟩) x.b.ls.length x.cl,.slice (some ⟨x.gt,0,none⟩) x.b.ts.length x.ct,.int .i64 x.b.lot] 40)) (w.heap.size+1) (g:=w.heap.size+1) (by simp) (by simp))
 have C0:=zh ((boxed w x 40).below (IBalsFit.one_more _ (.cells #[] 3)) (by simp))
 have B0:=zh (show Below w.heap.size w ((w.alloc (.cells #[.slice (some ⟨x.ga,0,none⟩) x.b.ac.length x.ca,.slice (some ⟨x.gi,0,none⟩) x.b.ic.length x.ci,.slice (some ⟨x.gb,0,none⟩) x.b.bs.length x.cb,.slice (some ⟨x.gl,0,none⟩) x.b.ls.length x.cl,.slice (some ⟨x.gt,0,none⟩) x.b.ts.length x.ct,.int .i64 x.b.lot] 40)).alloc (.cells #[] 3)) from((Below.refl _ _).alloc (Nat.le_refl _) _).alloc (by simp) _)
 have s0:((w.alloc (.cells #[.slice (some ⟨x.ga,0,none⟩) x.b.ac.length x.ca,.slice (some ⟨x.gi,0,none⟩) x.b.ic.length x.ci,.slice (some ⟨x.gb,0,none⟩) x.b.bs.length x.cb,.slice (some ⟨x.gl,0,none⟩) x.b.ls.length x.cl,.slice (some ⟨x.gt,0,none⟩) x.b.ts.length x.ct,.int .i64 x.b.lot] 40)).alloc (.cells #[] 3)).heap.size=w.heap.size+1+1:=by simp
 clear h
 go_enter Tryz.func139,Tryz.ntmps139
 go_wp2
 generalize (w.alloc (.cells #[.slice (some ⟨x.ga,0,none⟩) x.b.ac.length x.ca,.slice (some ⟨x.gi,0,none⟩) x.b.ic.length x.ci,.slice (some ⟨x.gb,0,none⟩) x.b.bs.length x.cb,.slice (some ⟨x.gl,0,none⟩) x.b.ls.length x.cl,.slice (some ⟨x.gt,0,none⟩) x.b.ts.length x.ct,.int .i64 x.b.lot] 40)).alloc (.cells #[] 3)=w0 at *
 go_loopw [3,4] (fun l j wr=>∃(p:List Int) (g1 c1 k:Nat),l= .slice (some ⟨g1,0,none⟩) p.length c1∧j= .int .i64 k∧k≤x.b.ac.length∧p.length≤k∧Hid (p=shortL (x.b.ac.take k))∧Hid (Ints.Own wr (w.heap.size+1) g1 p.length c1 p)∧Hid (Below (w.heap.size+1) w0 wr)) (fun _ j _=>x.b.ac.length-(intOf j).toNat)
 case atStart=>exact⟨[],w.heap.size+1,0,0,rfl,rfl,by omega,by simp,zh rfl,O0,zh (Below.refl _ _)⟩
 case round=>
  clear O0
  obtain⟨p,g1,c1,k,rfl,rfl,hk,pl,HP,H1,HB⟩:=hrel
  have bs:=(zu HB).size
  obtain⟨c0,_,_,_,_,_⟩:=(zu C0).below (zu HB) (by omega)
  by_cases t:k<x.b.ac.length
  ·obtain⟨e0,e1⟩:=(zu R0).ra.below (zu HB) (by omega) k t
   have NP:=zh (short_next (ps:=x.b.ac) (k:=k) t)
   rw[←zu HP] at NP
   obtain⟨no,hno⟩:∃no,Hid ((x.b.ac.getD k (0,0)).1=no):=⟨_,rfl⟩
   obtain⟨kd,hkd⟩:∃kd,Hid ((x.b.ac.getD k (0,0)).2=kd):=⟨_,rfl⟩
   rw[zu hno] at e0
   rw[zu hkd] at e1
   have NQ:=zh (show shortL (x.b.ac.take (k+1))=p++(if kd=1 then[] else[no]) from by
    first|(rw[zu NP,←zu hno,←zu hkd];done)|(rw[zu NP,←zu hno,←zu hkd];rfl))
   clear NP hno hkd
   by_cases own:kd=1
   ·have NP1:Hid (shortL (x.b.ac.take (k+1))=p):=zh (by rw[zu NQ,if_pos own,List.append_nil])
    clear NQ
    subst own
    go_wp2
    go_roundw
    case rel=>exact⟨p,g1,c1,k+1,rfl,by go_num,by omega,by omega,zh (zu NP1).symm,H1,HB⟩
    case measure=>simp[intOf];omega
   ·have NP1:Hid (shortL (x.b.ac.take (k+1))=p++[no]):=zh (by rw[zu NQ,if_neg own])
    have ob:(kd !=1)=true:=by simpa using own
    clear NQ own
    go_wp2_with (first|(at_builtin;refine wp_appI _ rfl _ _ rfl (w.heap.size+1) g1 p.length c1 p wr.heap.size no rfl rfl (own_alloc (zu H1) _) (by simp) (by omega) (by simp;omega) ?_)|go_in)
    intro g5 c5 w5 o5 gr5 loc5
    have O5:=zh o5
    have B5:=zh (((zu HB).alloc (by omega) (.cells #[.int .i64 no] 3)).grown gr5 (by simp;omega) (fun j hj=>by cases hj;exact(zu H1).lt.1))
    clear o5 gr5 loc5
    go_wp2
    go_roundw
    case rel=>exact⟨p++[no],g5,c5,k+1,by rw[show(p++[no]).length=p.length+1 by simp],by go_num,by omega,by simp;omega,zh (zu NP1).symm,zh (by rw[show(p++[no]).length=p.length+1 by simp];exact zu O5),B5⟩
    case measure=>simp[intOf];omega
  ·obtain rfl:k=x.b.ac.length:=by omega
   have EP:=zh (show p=shortL x.b.ac by rw[zu HP,List.take_of_length_le (by omega)])
   clear HP
   go_wp2
   go_ret
   rw[←zu EP]
   exact⟨g1,c1,rfl,(zu H1).mono (by omega),(zu B0).trans ((zu HB).mono (by omega))⟩
end Shorts
namespace SBk
open BMem Bks ILists BHelp Ans
open Post2 (PostAnswers)
open IBalsFit (one_more)
open ILotsFit (below_of_drew)
open Lots (Says says_of NoOk)
open Bals (T3)
open Tup5 (T5)
structure SV(w W:World)(x:Bx):Prop where
 x:Box W w.heap.size w.heap.size (.slice (some ⟨x.ga,0,none⟩) x.b.ac.length x.ca) (.slice (some ⟨x.gi,0,none⟩) x.b.ic.length x.ci) (.slice (some ⟨x.gb,0,none⟩) x.b.bs.length x.cb) (.slice (some ⟨x.gl,0,none⟩) x.b.ls.length x.cl) (.slice (some ⟨x.gt,0,none⟩) x.b.ts.length x.ct) (.int .i64 x.b.lot)
 v:Box W w.heap.size (w.heap.size+1) (.slice none 0 0) (.slice none 0 0) (.slice none 0 0) (.slice none 0 0) (.slice none 0 0) (.int .i64 0)
 b:Below w.heap.size w W
theorem SV.start(w:World)(x:Bx):SV w ((w.alloc (.cells #[.slice (some ⟨x.ga,0,none⟩) x.b.ac.length x.ca,.slice (some ⟨x.gi,0,none⟩) x.b.ic.length x.ci,.slice (some ⟨x.gb,0,none⟩) x.b.bs.length x.cb,.slice (some ⟨x.gl,0,none⟩) x.b.ls.length x.cl,.slice (some ⟨x.gt,0,none⟩) x.b.ts.length x.ct,.int .i64 x.b.lot] 40)).alloc (.cells #[.slice none 0 0,.slice none 0 0,.slice none 0 0,.slice none 0 0,.slice none 0 0,.int .i64 0] 40)) x:=
 ⟨World.ownsRow.alloc (Box.made (w:=w) (base:=w.heap.size) (g:=w.heap.size) _ _ _ _ _ _ (Nat.le_refl _) rfl) _,Box.made _ _ _ _ _ _ (by simp) (by simp),((Below.refl w.heap.size w).alloc (Nat.le_refl _) _).alloc (by simp) _⟩
theorem SV.step{w W W':World}{x:Bx}(h:SV w W x)(k:Below W.heap.size W W'):SV w W' x:=by
 have l:=h.v.lt
 exact⟨h.x.below k (by omega),h.v.below k (by omega),h.b.trans (k.mono h.b.size)⟩
theorem SV.six{w W:World}{x:Bx}(h:SV w W x):W.cell? ⟨w.heap.size,0,none⟩=some (.slice (some ⟨x.ga,0,none⟩) x.b.ac.length x.ca)∧W.cell? ⟨w.heap.size,1,none⟩=some (.slice (some ⟨x.gi,0,none⟩) x.b.ic.length x.ci)∧W.cell? ⟨w.heap.size,2,none⟩=some (.slice (some ⟨x.gb,0,none⟩) x.b.bs.length x.cb)∧W.cell? ⟨w.heap.size,3,none⟩=some (.slice (some ⟨x.gl,0,none⟩) x.b.ls.length x.cl)∧W.cell? ⟨w.heap.size,4,none⟩=some (.slice (some ⟨x.gt,0,none⟩) x.b.ts.length x.ct)∧W.cell? ⟨w.heap.size,5,none⟩=some (.int .i64 x.b.lot):=⟨h.x.c0,h.x.c1,h.x.c2,h.x.c3,h.x.c4,h.x.c5⟩
abbrev withB(x:Bx)(g c:Nat)(qs:List T3):Bx:={x with gb:=g,cb:=c,b:={x.b with bs:=qs}}
abbrev withL(x:Bx)(g c:Nat)(qs:List T5)(lot:Int):Bx:={x with gl:=g,cl:=c,b:={x.b with ls:=qs,lot:=lot}}
theorem ow_withB{w:World}{base g c:Nat}{x:Bx}{qs:List T3}(h:Ow w base x)(o:Triples.Own3 70 w base g qs.length c qs):Ow w base (withB x g c qs):=⟨h.oa,h.oi,o,h.ol,h.ot⟩
theorem ow_withL{w:World}{base g c:Nat}{x:Bx}{qs:List T5}{lot:Int}(h:Ow w base x)(o:Tup5.Own5 120 w base g qs.length c qs):Ow w base (withL x g c qs lot):=⟨h.oa,h.oi,h.ob,o,h.ot⟩
theorem off_withB{x:Bx}{g c N p:Nat}{qs:List T3}(h:Up x N)(hp:N≤p)(hg:p<g):Off (withB x g c qs) p:=by
 unfold Up at h
 unfold Off withB
 simp
 omega
theorem off_withL{x:Bx}{g c N p:Nat}{qs:List T5}{lot:Int}(h:Up x N)(hp:N≤p)(hg:p<g):Off (withL x g c qs lot) p:=by
 unfold Up at h
 unfold Off withL
 simp
 omega
theorem sPost(w:World)(base:Nat)(x:Bx)(gL capL:Nat)(ls:List T3)(O:Ow w base x)(LI:Lists x.b)(s:Small x.b)(hl:ls.length≤1048576)(hgL:gL<w.heap.size)(hL:Triples.At3 w gL ls)(hf:Bals.Formed ls)(he:Bals.Even ls):
  Calls Tryz.prog 98 #[.agg #[.slice (some ⟨x.ga,0,none⟩) x.b.ac.length x.ca,.slice (some ⟨x.gi,0,none⟩) x.b.ic.length x.ci,.slice (some ⟨x.gb,0,none⟩) x.b.bs.length x.cb,.slice (some ⟨x.gl,0,none⟩) x.b.ls.length x.cl,.slice (some ⟨x.gt,0,none⟩) x.b.ts.length x.ct,.int .i64 x.b.lot],.slice (some ⟨gL,0,none⟩) ls.length capL] w fun e w'=>∃(y:Bx) (c:Int),IsPosted x.b ls y.b c∧e= .returned (.tuple #[.agg #[.slice (some ⟨y.ga,0,none⟩) y.b.ac.length y.ca,.slice (some ⟨y.gi,0,none⟩) y.b.ic.length y.ci,.slice (some ⟨y.gb,0,none⟩) y.b.bs.length y.cb,.slice (some ⟨y.gl,0,none⟩) y.b.ls.length y.cl,.slice (some ⟨y.gt,0,none⟩) y.b.ts.length y.ct,.int .i64 y.b.lot],.int .i64 c])∧Ow w' base y∧Below w.heap.size w w':=by
 have R0:=zh (O.rd s)
 have O0:=zh O
 have U0:=zh (ow_up O)
 have L0:=zh hL
 have S1:=zh (SV.start w x)
 have PC:=zh (fun qs c (hp:Bals.IsPost x.b.bs ls (shortL x.b.ac) qs c)=>post_code hp LI.2.2.1 hf he (Nat.le_trans (short_len _) LI.1.1))
 have xl:(shortL x.b.ac).length≤1048576:=Nat.le_trans (short_len _) s.1
 have nb:=s.2.2.1
 have hb:=O.oa.lt
 clear O hL hf he LI s
 go_enter Tryz.func98,Tryz.ntmps98
 go_wp2_with fail
 generalize ((w.alloc (.cells #[.slice (some ⟨x.ga,0,none⟩) x.b.ac.length x.ca,.slice (some ⟨x.gi,0,none⟩) x.b.ic.length x.ci,.slice (some ⟨x.gb,0,none⟩) x.b.bs.length x.cb,.slice (some ⟨x.gl,0,none⟩) x.b.ls.length x.cl,.slice (some ⟨x.gt,0,none⟩) x.b.ts.length x.ct,.int .i64 x.b.lot] 40)).alloc (.cells #[.slice none 0 0,.slice none 0 0,.slice none 0 0,.slice none 0 0,.slice none 0 0,.int .i64 0] 40))=w1 at *
 have K4:=(zu S1).six
 go_region_held3 (fun w'=>w'.cell? ⟨w.heap.size,0,none⟩=some (.slice (some ⟨x.ga,0,none⟩) x.b.ac.length x.ca)∧w'.cell? ⟨w.heap.size,1,none⟩=some (.slice (some ⟨x.gi,0,none⟩) x.b.ic.length x.ci)∧w'.cell? ⟨w.heap.size,2,none⟩=some (.slice (some ⟨x.gb,0,none⟩) x.b.bs.length x.cb)∧w'.cell? ⟨w.heap.size,3,none⟩=some (.slice (some ⟨x.gl,0,none⟩) x.b.ls.length x.cl)∧w'.cell? ⟨w.heap.size,4,none⟩=some (.slice (some ⟨x.gt,0,none⟩) x.b.ts.length x.ct)∧w'.cell? ⟨w.heap.size,5,none⟩=some (.int .i64 x.b.lot)) (first|exact K4|exact K5|exact K6)
  (first|(go_at_call 139;refine(Shorts.sShort w1.drew x ((zu R0).below (zu S1).b.drew)).mono ?_;rintro e w2 ⟨gS,cS,rfl,oS,bb⟩;have bW:Below w1.heap.size w1 w2:=below_of_drew bb;have S2:=zh ((zu S1).step bW);have K5:=(zu S2).six;have OS:=zh oS;clear oS bb bW)|(go_at_call 138;refine(SPost.sBalsPost w2 x.gb _ x.cb gL _ capL gS _ cS x.b.bs ls (shortL x.b.ac) rfl rfl rfl nb hl xl ((zu R0).below (zu S2).b).lb (Nat.lt_of_lt_of_le hgL (zu S2).b.size) (zu OS).lt.2 ((zu R0).below (zu S2).b).rb ((zu L0).below (zu S2).b hgL) (zu OS).at).mono ?_;rintro e w3 ⟨qs,pc,g5,k5,hp,rfl,o5,bb6⟩;have S3:=zh ((zu S2).step bb6);have K6:=(zu S3).six;have HP:=zh hp;have O5:=zh o5;have z2:=(zu S2).v.lt.2;clear hp o5 bb6))
 clear K4 K5 K6
 have OX:=zh ((zu O0).below (zu S3).b (Nat.le_refl _))
 have g5l:=(zu O5).lt.1
 have c0:=(zu S3).x.c0
 have c1:=(zu S3).x.c1
 have c2:=(zu S3).x.c2
 have c3:=(zu S3).x.c3
 have c4:=(zu S3).x.c4
 have c5:=(zu S3).x.c5
 obtain⟨r0,r1,r2,r3,r4,r5,f0,f1,f2,f3,f4,f5⟩:=Box.all ((zu S3).v)
 have x2:=(zu S3).x.free 2
 have BW:=zh (zu S3).b
 rcases(zu PC) _ _ (zu HP) with rfl|rfl|rfl|rfl
 ·have IS:=zh (show IsPosted x.b ls (withB x g5 k5 qs).b 0 from⟨qs,0,zu HP,.inl ⟨rfl,rfl,rfl⟩⟩)
  have OY:=zh (ow_withB (zu OX) ((zu O5).rebase (base':=base) (by have:=(zu OX).oa.lt;omega)))
  have F1:=zh (off_withB (c:=k5) (qs:=qs) (zu U0) (Nat.le_refl w.heap.size) (show w.heap.size<g5 by omega))
  have F2:=zh (off_withB (c:=k5) (qs:=qs) (zu U0) (Nat.le_add_right w.heap.size 1) (show w.heap.size+1<g5 by omega))
  go_wp2
  refine bodyPost_ret (v:= .tuple #[.agg #[.slice (some ⟨x.ga,0,none⟩) x.b.ac.length x.ca,.slice (some ⟨x.gi,0,none⟩) x.b.ic.length x.ci,.slice (some ⟨g5,0,none⟩) qs.length k5,.slice (some ⟨x.gl,0,none⟩) x.b.ls.length x.cl,.slice (some ⟨x.gt,0,none⟩) x.b.ts.length x.ct,.int .i64 x.b.lot],.int .i64 0]) (by simp[results,Tryz.results98,go_sem,r0,r1,r2,r3,r4,r5]) rfl ⟨withB x g5 k5 qs,0,zu IS,rfl,?_,?_⟩
  ·exact ow_six (ow_set (zu OY) (zu F1) 2 _) (zu F2) _ _ _ _ _ _
  ·exact Ans.six ((zu BW).setCell (p:=⟨w.heap.size,2,none⟩) (Nat.le_refl _) _) (by omega) _ _ _ _ _ _
 ·have IS:=zh (show IsPosted x.b ls x.b 5 from⟨qs,3,zu HP,.inr (.inl ⟨rfl,rfl,rfl⟩)⟩)
  go_wp2
  refine bodyPost_ret (v:= .tuple #[.agg #[.slice (some ⟨x.ga,0,none⟩) x.b.ac.length x.ca,.slice (some ⟨x.gi,0,none⟩) x.b.ic.length x.ci,.slice (some ⟨x.gb,0,none⟩) x.b.bs.length x.cb,.slice (some ⟨x.gl,0,none⟩) x.b.ls.length x.cl,.slice (some ⟨x.gt,0,none⟩) x.b.ts.length x.ct,.int .i64 x.b.lot],.int .i64 5]) (by simp[results,Tryz.results98,go_sem,r0,r1,r2,r3,r4,r5]) rfl ⟨x,5,zu IS,rfl,?_,?_⟩
  ·exact ow_six (zu OX) (off_up (zu U0) (by omega)) _ _ _ _ _ _
  ·exact Ans.six (zu BW) (by omega) _ _ _ _ _ _
 ·have IS:=zh (show IsPosted x.b ls x.b 8 from⟨qs,4,zu HP,.inr (.inr (.inl ⟨rfl,rfl,rfl⟩))⟩)
  go_wp2
  refine bodyPost_ret (v:= .tuple #[.agg #[.slice (some ⟨x.ga,0,none⟩) x.b.ac.length x.ca,.slice (some ⟨x.gi,0,none⟩) x.b.ic.length x.ci,.slice (some ⟨x.gb,0,none⟩) x.b.bs.length x.cb,.slice (some ⟨x.gl,0,none⟩) x.b.ls.length x.cl,.slice (some ⟨x.gt,0,none⟩) x.b.ts.length x.ct,.int .i64 x.b.lot],.int .i64 8]) (by simp[results,Tryz.results98,go_sem,r0,r1,r2,r3,r4,r5]) rfl ⟨x,8,zu IS,rfl,?_,?_⟩
  ·exact ow_six (zu OX) (off_up (zu U0) (by omega)) _ _ _ _ _ _
  ·exact Ans.six (zu BW) (by omega) _ _ _ _ _ _
 ·have IS:=zh (show IsPosted x.b ls x.b 7 from⟨qs,5,zu HP,.inr (.inr (.inr ⟨rfl,rfl,rfl⟩))⟩)
  go_wp2
  refine bodyPost_ret (v:= .tuple #[.agg #[.slice (some ⟨x.ga,0,none⟩) x.b.ac.length x.ca,.slice (some ⟨x.gi,0,none⟩) x.b.ic.length x.ci,.slice (some ⟨x.gb,0,none⟩) x.b.bs.length x.cb,.slice (some ⟨x.gl,0,none⟩) x.b.ls.length x.cl,.slice (some ⟨x.gt,0,none⟩) x.b.ts.length x.ct,.int .i64 x.b.lot],.int .i64 7]) (by simp[results,Tryz.results98,go_sem,r0,r1,r2,r3,r4,r5]) rfl ⟨x,7,zu IS,rfl,?_,?_⟩
  ·exact ow_six (zu OX) (off_up (zu U0) (by omega)) _ _ _ _ _ _
  ·exact Ans.six (zu BW) (by omega) _ _ _ _ _ _
theorem open_cases(ok okl okn:Bool):(ok=true∧okl=true∧okn=true)∨(SOpen.openC ok okl okn≠0∧¬(ok=true∧okl=true∧okn=true)):=by
 cases ok<;>cases okl<;>cases okn<;>simp[SOpen.openC]
theorem sOpenB(w:World)(base:Nat)(x:Bx)(a i q cost:Int)(O:Ow w base x)(hlot:0≤x.b.lot∧x.b.lot≤1000000000)(s:Small x.b):
  Calls Tryz.prog 141 #[.agg #[.slice (some ⟨x.ga,0,none⟩) x.b.ac.length x.ca,.slice (some ⟨x.gi,0,none⟩) x.b.ic.length x.ci,.slice (some ⟨x.gb,0,none⟩) x.b.bs.length x.cb,.slice (some ⟨x.gl,0,none⟩) x.b.ls.length x.cl,.slice (some ⟨x.gt,0,none⟩) x.b.ts.length x.ct,.int .i64 x.b.lot],.int .i64 a,.int .i64 i,.int .i64 q,.int .i64 cost] w fun e w'=>∃(y:Bx) (c:Int),IsOpen x.b a i q cost y.b c∧e= .returned (.tuple #[.agg #[.slice (some ⟨y.ga,0,none⟩) y.b.ac.length y.ca,.slice (some ⟨y.gi,0,none⟩) y.b.ic.length y.ci,.slice (some ⟨y.gb,0,none⟩) y.b.bs.length y.cb,.slice (some ⟨y.gl,0,none⟩) y.b.ls.length y.cl,.slice (some ⟨y.gt,0,none⟩) y.b.ts.length y.ct,.int .i64 y.b.lot],.int .i64 c])∧Ow w' base y∧Below w.heap.size w w':=by
 have R0:=zh (O.rd s)
 have O0:=zh O
 have U0:=zh (ow_up O)
 have S1:=zh (SV.start w x)
 have nl:=s.2.2.2.1
 obtain⟨l0,l1⟩:=hlot
 clear O s
 by_cases full:x.b.lot=1000000000
 ·have IS:=zh (show IsOpen x.b a i q cost x.b 7 from .inr ⟨fun h=>h.1 full,rfl,rfl⟩)
  have fb:(x.b.lot==1000000000)=true:=by simp[full]
  have OX:=zh ((zu O0).below (zu S1).b (Nat.le_refl _))
  have BW:=zh (zu S1).b
  clear full
  go_enter Tryz.func141,Tryz.ntmps141
  go_wp2
  refine bodyPost_ret (v:= .tuple #[.agg #[.slice (some ⟨x.ga,0,none⟩) x.b.ac.length x.ca,.slice (some ⟨x.gi,0,none⟩) x.b.ic.length x.ci,.slice (some ⟨x.gb,0,none⟩) x.b.bs.length x.cb,.slice (some ⟨x.gl,0,none⟩) x.b.ls.length x.cl,.slice (some ⟨x.gt,0,none⟩) x.b.ts.length x.ct,.int .i64 x.b.lot],.int .i64 7]) (by simp[results,Tryz.results141,go_sem]) rfl ⟨x,7,zu IS,rfl,?_,?_⟩
  ·exact(zu O0).below (((Below.refl w.heap.size w).alloc (Nat.le_refl _) _).alloc (by simp) _) (Nat.le_refl _)
  ·exact((Below.refl w.heap.size w).alloc (Nat.le_refl _) _).alloc (by simp) _
 have fb:(x.b.lot==1000000000)=false:=by simpa using full
 have HF:=zh full
 obtain⟨ok,hok⟩:=says_of (Lots.Right x.b.ls)
 obtain⟨okl,hkl⟩:=says_of (Lots.One (opened x.b a i q cost))
 obtain⟨okn,hkn⟩:=says_of (Lots.Right (Lots.mergeL (x.b.ls.length+1) x.b.ls [opened x.b a i q cost]))
 have HO:=zh hok
 have HL:=zh hkl
 have HN:=zh hkn
 clear full hok hkl hkn
 go_enter Tryz.func141,Tryz.ntmps141
 go_wp2_with fail
 generalize ((w.alloc (.cells #[.slice (some ⟨x.ga,0,none⟩) x.b.ac.length x.ca,.slice (some ⟨x.gi,0,none⟩) x.b.ic.length x.ci,.slice (some ⟨x.gb,0,none⟩) x.b.bs.length x.cb,.slice (some ⟨x.gl,0,none⟩) x.b.ls.length x.cl,.slice (some ⟨x.gt,0,none⟩) x.b.ts.length x.ct,.int .i64 x.b.lot] 40)).alloc (.cells #[.slice none 0 0,.slice none 0 0,.slice none 0 0,.slice none 0 0,.slice none 0 0,.int .i64 0] 40))=w1 at *
 refine(SOpen.sOpen w1 x.gl _ x.cl x.b.ls _ a i (x.b.lot+1) q cost ok okl okn (zh rfl) rfl nl ((zu R0).below (zu S1).b).ll ((zu R0).below (zu S1).b).rl (zu HO) (zu HL) (zu HN)).mono ?_
 rintro e w2 ⟨g2,k2,rfl,o2,bb⟩
 have S2:=zh ((zu S1).step bb)
 have OX:=zh ((zu O0).below (zu S2).b (Nat.le_refl _))
 have BW:=zh (zu S2).b
 have O2:=zh o2
 have g2l:=o2.lt.1
 have z1:=(zu S1).v.lt.2
 have zb:=(zu O0).oa.lt
 clear o2 bb
 have c0:=(zu S2).x.c0
 have c1:=(zu S2).x.c1
 have c2:=(zu S2).x.c2
 have c3:=(zu S2).x.c3
 have c4:=(zu S2).x.c4
 have c5:=(zu S2).x.c5
 obtain⟨r0,r1,r2,r3,r4,r5,f0,f1,f2,f3,f4,f5⟩:=Box.all ((zu S2).v)
 have x3:=(zu S2).x.free 3
 have x5:=(zu S2).x.free 5
 rcases open_cases ok okl okn with⟨rfl,rfl,rfl⟩|⟨hne,hno⟩
 ·obtain⟨R,hR⟩:∃R,Hid (Lots.mergeL (x.b.ls.length+1) x.b.ls [opened x.b a i q cost]=R):=⟨_,rfl⟩
  have O2:=zh (show Tup5.Own5 120 w2 w1.heap.size g2 R.length k2 R from by rw[←zu hR];exact zu O2)
  have IS:=zh (show IsOpen x.b a i q cost (withL x g2 k2 R (x.b.lot+1)).b 0 from .inl ⟨⟨zu HF,(zu HO).yes,(zu HL).yes,(zu HN).yes⟩,by rw[←zu hR],rfl⟩)
  have OY:=zh (ow_withL (lot:=x.b.lot+1) (zu OX) ((zu O2).rebase (base':=base) (by omega)))
  have F1:=zh (off_withL (c:=k2) (qs:=R) (lot:=x.b.lot+1) (zu U0) (Nat.le_refl w.heap.size) (show w.heap.size<g2 by omega))
  have F2:=zh (off_withL (c:=k2) (qs:=R) (lot:=x.b.lot+1) (zu U0) (Nat.le_add_right w.heap.size 1) (show w.heap.size+1<g2 by omega))
  rw[show(SOpen.openA x.b.ls (Lots.mergeL (x.b.ls.length+1) x.b.ls [(a,i,x.b.lot+1,q,cost)]) true true true).length=R.length from by rw[←zu hR];rfl,show SOpen.openC true true true=0 from rfl]
  go_wp2
  refine bodyPost_ret (v:= .tuple #[.agg #[.slice (some ⟨x.ga,0,none⟩) x.b.ac.length x.ca,.slice (some ⟨x.gi,0,none⟩) x.b.ic.length x.ci,.slice (some ⟨x.gb,0,none⟩) x.b.bs.length x.cb,.slice (some ⟨g2,0,none⟩) R.length k2,.slice (some ⟨x.gt,0,none⟩) x.b.ts.length x.ct,.int .i64 (x.b.lot+1)],.int .i64 0]) (by simp[results,Tryz.results141,go_sem,r0,r1,r2,r3,r4,r5]) rfl ⟨withL x g2 k2 R (x.b.lot+1),0,zu IS,rfl,?_,?_⟩
  ·exact ow_six (ow_set (ow_set (zu OY) (zu F1) 3 _) (zu F1) 5 _) (zu F2) _ _ _ _ _ _
  ·exact Ans.six (((zu BW).setCell (p:=⟨w.heap.size,3,none⟩) (Nat.le_refl _) _).setCell (p:=⟨w.heap.size,5,none⟩) (Nat.le_refl _) _) (by omega) _ _ _ _ _ _
 ·have IS:=zh (show IsOpen x.b a i q cost x.b 7 from .inr ⟨fun h=>hno ⟨(zu HO).of h.2.1,(zu HL).of h.2.2.1,(zu HN).of h.2.2.2⟩,rfl,rfl⟩)
  obtain⟨c,hc⟩:∃c,Hid (SOpen.openC ok okl okn=c):=⟨_,rfl⟩
  have cb:(c !=0)=true:=by rw[←zu hc];simpa using hne
  rw[zu hc]
  clear hne hno
  go_wp2
  refine bodyPost_ret (v:= .tuple #[.agg #[.slice (some ⟨x.ga,0,none⟩) x.b.ac.length x.ca,.slice (some ⟨x.gi,0,none⟩) x.b.ic.length x.ci,.slice (some ⟨x.gb,0,none⟩) x.b.bs.length x.cb,.slice (some ⟨x.gl,0,none⟩) x.b.ls.length x.cl,.slice (some ⟨x.gt,0,none⟩) x.b.ts.length x.ct,.int .i64 x.b.lot],.int .i64 7]) (by simp[results,Tryz.results141,go_sem,r0,r1,r2,r3,r4,r5]) rfl ⟨x,7,zu IS,rfl,?_,?_⟩
  ·exact ow_six (zu OX) (off_up (zu U0) (by omega)) _ _ _ _ _ _
  ·exact Ans.six (zu BW) (by omega) _ _ _ _ _ _
end SBk
namespace SIssue
open BMem Bks ILists BHelp Ans SBk
open IBalsFit (one_more)
open Lots (Says says_of NoOk)
open Quieter (Near near_is quiet_near)
open Bals (T3)
open Tup5 (T5)
theorem posted_small{b b':Bk}{ls:List T3}{c:Int}(h:IsPosted b ls b' c)(s:Small b):Small b':=by
 obtain⟨qs,pc,hp,⟨_,rfl,_⟩|⟨_,rfl,_⟩|⟨_,rfl,_⟩|⟨_,rfl,_⟩⟩:=h
 ·have:=hp.len
  obtain⟨a,b,c,d,e⟩:=s
  exact⟨a,b,by simp;omega,d,e⟩
 all_goals exact s
theorem posted_lot{b b':Bk}{ls:List T3}{c:Int}(h:IsPosted b ls b' c):b'.lot=b.lot∧b'.ls=b.ls∧b'.ac=b.ac∧b'.ic=b.ic:=by
 obtain⟨qs,pc,hp,⟨_,rfl,_⟩|⟨_,rfl,_⟩|⟨_,rfl,_⟩|⟨_,rfl,_⟩⟩:=h
 all_goals exact⟨rfl,rfl,rfl,rfl⟩
theorem row_ne{w:World}{base base':Nat}{e e':TypeId}{size size' g n cap g' n' cap':Nat}{xs xs':List Value}(h:w.ownsRow base e size (.slice (some ⟨g,0,none⟩) n cap) n xs)(k:w.ownsRow base' e' size' (.slice (some ⟨g',0,none⟩) n' cap') n' xs')(ne:e≠e'):g≠g':=by
 rintro rfl
 rcases h.2 with⟨h1,_⟩|⟨g1,c1,cur1,h1,h2,h3,_⟩
 ·simp at h1
 rcases k.2 with⟨k1,_⟩|⟨g2,c2,cur2,k1,k2,k3,_⟩
 ·simp at k1
 obtain⟨rfl,_⟩:g=g1∧cap=c1:=by simpa using h1
 obtain⟨rfl,_⟩:g=g2∧cap'=c2:=by simpa using k1
 rw[h3] at k3
 injection k3 with k3
 injection k3 with _ k3
 exact ne k3
theorem off_box{w:World}{base base' p:Nat}{y:Bx}{v0 v1 v2 v3 v4 v5:Value}(O:Ow w base y)(B:Box w base' p v0 v1 v2 v3 v4 v5):Off y p:=
 ⟨row_ne O.oa B (by decide),row_ne O.oi B (by decide),row_ne O.ob B (by decide),row_ne O.ol B (by decide),row_ne O.ot B (by decide)⟩
theorem SR.grown{w W W':World}{x:Bx}{p:Nat}(H:Rd w x)(h:SR w W x)(k:W.grownBy W' (some p))(hp:w.heap.size+1<p):SR w W' x:=by
 have b:Below w.heap.size w W':=h.b.grown k h.b.size (fun j e=>by injection e;omega)
 have n0:some w.heap.size≠some p:=fun e=>by injection e;omega
 exact⟨H.below b,⟨k.cell h.c.c0 n0,k.cell h.c.c1 n0,k.cell h.c.c2 n0,k.cell h.c.c3 n0,k.cell h.c.c4 n0,k.cell h.c.c5 n0⟩,h.v.kept k (fun e=>by injection e;omega),b⟩
theorem six_alloc{B:Nat}{a w:World}{g:Nat}(h:Below B a w)(hB:B≤w.heap.size)(hg:B≤g)(u0 u1 u2 u3 u4 u5:Value)(o:Obj):Below B a (((((((w.setCell ⟨g,0,none⟩ u0).setCell ⟨g,1,none⟩ u1).setCell ⟨g,2,none⟩ u2).setCell ⟨g,3,none⟩ u3).setCell ⟨g,4,none⟩ u4).setCell ⟨g,5,none⟩ u5).alloc o):=
 (six h hg u0 u1 u2 u3 u4 u5).alloc (by simpa using hB) o
theorem ow_six_alloc{w:World}{base base':Nat}{z:Bx}{g:Nat}(h:Ow w base z)(off:Off z g)(hb:base'≤base)(u0 u1 u2 u3 u4 u5:Value)(o:Obj):Ow (((((((w.setCell ⟨g,0,none⟩ u0).setCell ⟨g,1,none⟩ u1).setCell ⟨g,2,none⟩ u2).setCell ⟨g,3,none⟩ u3).setCell ⟨g,4,none⟩ u4).setCell ⟨g,5,none⟩ u5).alloc o) base' z:=
 (ow_alloc (ow_six h off u0 u1 u2 u3 u4 u5) o).rebase hb
theorem box_six_alloc{w:World}{base g:Nat}{v0 v1 v2 v3 v4 v5:Value}(h:Box w base g v0 v1 v2 v3 v4 v5)(u0 u1 u2 u3 u4 u5:Value)(o:Obj):Box (((((((w.setCell ⟨g,0,none⟩ u0).setCell ⟨g,1,none⟩ u1).setCell ⟨g,2,none⟩ u2).setCell ⟨g,3,none⟩ u3).setCell ⟨g,4,none⟩ u4).setCell ⟨g,5,none⟩ u5).alloc o) base g u0 u1 u2 u3 u4 u5:=World.ownsRow.alloc (box_six h u0 u1 u2 u3 u4 u5).1 o
theorem to_wb{P:Program}{fn:Func}{R:Ending→World→Prop}{ex:Exit}{a:Act}{W:World}(Pr:World→Prop)(h:Pr W)(k:∀W,Pr W→bodyPost P fn R ex a W):bodyPost P fn R ex a W:=k W h
theorem ne_true{a b:Int}(h:a≠b):(a !=b)=true:=by simpa using h
theorem eq_false{a b:Int}(h:¬a=b):(a==b)=false:=by simpa using h
end SIssue
namespace TBox
open BMem Bks ILists BHelp Ans Trd
open Tup8 (T8 el8 Own8)
open SIssue (row_ne)
def Box8(w:World)(base g:Nat)(p:T8):Prop:=w.ownsRow base 64 8 (.slice (some ⟨g,0,none⟩) 1 1) 1 [.int .i64 p.1,.int .i64 p.2.1,.int .i64 p.2.2.1,.int .i64 p.2.2.2.1,.int .i64 p.2.2.2.2.1,.int .i64 p.2.2.2.2.2.1,.int .i64 p.2.2.2.2.2.2.1,.int .i64 p.2.2.2.2.2.2.2]
theorem Box8.made{w:World}{base g:Nat}(p:T8)(hb:base≤w.heap.size)(hg:g=w.heap.size):Box8 (w.alloc (.cells #[.int .i64 p.1,.int .i64 p.2.1,.int .i64 p.2.2.1,.int .i64 p.2.2.2.1,.int .i64 p.2.2.2.2.1,.int .i64 p.2.2.2.2.2.1,.int .i64 p.2.2.2.2.2.2.1,.int .i64 p.2.2.2.2.2.2.2] 64)) base g p:=by
 subst hg
 exact World.ownsRow_lit w #[.int .i64 p.1,.int .i64 p.2.1,.int .i64 p.2.2.1,.int .i64 p.2.2.2.1,.int .i64 p.2.2.2.2.1,.int .i64 p.2.2.2.2.2.1,.int .i64 p.2.2.2.2.2.2.1,.int .i64 p.2.2.2.2.2.2.2] 1 hb (by decide) rfl
section
variable {w w':World} {base g:Nat} {p:T8}
theorem Box8.lt(h:Box8 w base g p):base≤g∧g<w.heap.size:=World.ownsRow.lt h g rfl
theorem Box8.free(h:Box8 w base g p)(i:Nat):w.frozen? ⟨g,i,none⟩=false:=World.ownsRow.frozenAt h i
theorem Box8.c0(h:Box8 w base g p):w.cell? ⟨g,0,none⟩=some (.int .i64 p.1):=(World.ownsRow.cellAt h 0 (by omega)).trans rfl
theorem Box8.c1(h:Box8 w base g p):w.cell? ⟨g,1,none⟩=some (.int .i64 p.2.1):=(World.ownsRow.cellAt h 1 (by omega)).trans rfl
theorem Box8.c2(h:Box8 w base g p):w.cell? ⟨g,2,none⟩=some (.int .i64 p.2.2.1):=(World.ownsRow.cellAt h 2 (by omega)).trans rfl
theorem Box8.c3(h:Box8 w base g p):w.cell? ⟨g,3,none⟩=some (.int .i64 p.2.2.2.1):=(World.ownsRow.cellAt h 3 (by omega)).trans rfl
theorem Box8.c4(h:Box8 w base g p):w.cell? ⟨g,4,none⟩=some (.int .i64 p.2.2.2.2.1):=(World.ownsRow.cellAt h 4 (by omega)).trans rfl
theorem Box8.c5(h:Box8 w base g p):w.cell? ⟨g,5,none⟩=some (.int .i64 p.2.2.2.2.2.1):=(World.ownsRow.cellAt h 5 (by omega)).trans rfl
theorem Box8.c6(h:Box8 w base g p):w.cell? ⟨g,6,none⟩=some (.int .i64 p.2.2.2.2.2.2.1):=(World.ownsRow.cellAt h 6 (by omega)).trans rfl
theorem Box8.c7(h:Box8 w base g p):w.cell? ⟨g,7,none⟩=some (.int .i64 p.2.2.2.2.2.2.2):=(World.ownsRow.cellAt h 7 (by omega)).trans rfl
theorem Box8.below{B:Nat}(h:Box8 w base g p)(k:Below B w w')(hg:g<B):Box8 w' base g p:=by
 refine⟨h.1,?_⟩
 rcases h.2 with⟨h1,_⟩|⟨g',c,cur,h1,h2,h3,h4⟩
 ·simp at h1
 ·obtain⟨e,_⟩:g=g'∧1=c:=by simpa using h1
  subst e
  exact Or.inr ⟨g,c,cur,h1,h2,by rw[k.block g hg];exact h3,h4⟩
theorem Box8.kept{row:Option Nat}(h:Box8 w base g p)(k:w.grownBy w' row)(hne:some g≠row):Box8 w' base g p:=World.ownsRow.kept h k (Or.inr hne)
theorem Box8.alloc(h:Box8 w base g p)(o:Obj):Box8 (w.alloc o) base g p:=World.ownsRow.alloc h o
end
theorem Box8.all{w:World}{base g:Nat}{p:T8}(h:Box8 w base g p):w.cell? ⟨g,0,none⟩=some (.int .i64 p.1)∧w.cell? ⟨g,1,none⟩=some (.int .i64 p.2.1)∧w.cell? ⟨g,2,none⟩=some (.int .i64 p.2.2.1)∧w.cell? ⟨g,3,none⟩=some (.int .i64 p.2.2.2.1)∧w.cell? ⟨g,4,none⟩=some (.int .i64 p.2.2.2.2.1)∧w.cell? ⟨g,5,none⟩=some (.int .i64 p.2.2.2.2.2.1)∧w.cell? ⟨g,6,none⟩=some (.int .i64 p.2.2.2.2.2.2.1)∧w.cell? ⟨g,7,none⟩=some (.int .i64 p.2.2.2.2.2.2.2)∧w.frozen? ⟨g,0,none⟩=false∧w.frozen? ⟨g,1,none⟩=false∧w.frozen? ⟨g,2,none⟩=false∧w.frozen? ⟨g,3,none⟩=false∧w.frozen? ⟨g,4,none⟩=false∧w.frozen? ⟨g,5,none⟩=false∧w.frozen? ⟨g,6,none⟩=false∧w.frozen? ⟨g,7,none⟩=false:=⟨h.c0,h.c1,h.c2,h.c3,h.c4,h.c5,h.c6,h.c7,h.free 0,h.free 1,h.free 2,h.free 3,h.free 4,h.free 5,h.free 6,h.free 7⟩
abbrev withS(x:Bx)(k:Nat)(s:Int):Bx:={x with b:={x.b with ts:=setState x.b.ts k s}}
theorem ow_state{w:World}{base:Nat}{x:Bx}(h:Ow w base x)(k:Nat)(s:Int):Ow (w.setCell ⟨x.gt,k*8+7,none⟩ (.int .i64 s)) base (withS x k s):=by
 have a:=row_ne h.oa h.ot (by decide)
 have b:=row_ne h.oi h.ot (by decide)
 have c:=row_ne h.ob h.ot (by decide)
 have d:=row_ne h.ol h.ot (by decide)
 refine⟨row_set h.oa a _ _,row_set h.oi b _ _,row_set h.ob c _ _,row_set h.ol d _ _,?_⟩
 have:=(h.ot.set7 k s).1
 show Own8 64 _ base x.gt (setState x.b.ts k s).length x.ct (setState x.b.ts k s)
 rw[set_len]
 exact this
theorem state_grown{w:World}{base:Nat}{x:Bx}(h:Ow w base x)(k:Nat)(s:Int):w.grownBy (w.setCell ⟨x.gt,k*8+7,none⟩ (.int .i64 s)) (some x.gt):=(h.ot.set7 k s).2
end TBox
namespace STell
open BMem Bks ILists IBalsFit Ans Trd TBox
open Lots (Says says_of NoOk)
open Tup8 (T8 el8)
open SIssue (to_wb)
structure SR8(w W:World)(x:Bx):Prop where
 r:Rd W x
 c:Cl W w.heap.size x
 v:Box8 W w.heap.size (w.heap.size+1) (0,0,0,0,0,0,0,0)
 b:Below w.heap.size w W
theorem SR8.start{w:World}{x:Bx}(h:Rd w x):SR8 w ((w.alloc (.cells #[.slice (some ⟨x.ga,0,none⟩) x.b.ac.length x.ca,.slice (some ⟨x.gi,0,none⟩) x.b.ic.length x.ci,.slice (some ⟨x.gb,0,none⟩) x.b.bs.length x.cb,.slice (some ⟨x.gl,0,none⟩) x.b.ls.length x.cl,.slice (some ⟨x.gt,0,none⟩) x.b.ts.length x.ct,.int .i64 x.b.lot] 40)).alloc (.cells #[.int .i64 0,.int .i64 0,.int .i64 0,.int .i64 0,.int .i64 0,.int .i64 0,.int .i64 0,.int .i64 0] 64)) x:=
 ⟨(h.alloc _).alloc _,(boxed w x 40).below (one_more _ _) (by simp),Box8.made (0,0,0,0,0,0,0,0) (by simp) (by simp),((Below.refl w.heap.size w).alloc (Nat.le_refl _) _).alloc (by simp) _⟩
theorem SR8.step{w W W':World}{x:Bx}(h:SR8 w W x)(k:Below W.heap.size W W'):SR8 w W' x:=by
 have l:=h.v.lt
 exact⟨h.r.below k,h.c.below k (by omega),h.v.below k (by omega),h.b.trans (k.mono h.b.size)⟩
def IsOpens(b:Bk)(lo hi:Int)(xs:List Int):Prop:=(Ok b∧xs=openT lo hi b.ts)∨(¬Ok b∧xs=[])
theorem IsOpens.same{b:Bk}{lo hi:Int}{xs ys:List Int}(h:IsOpens b lo hi xs)(k:IsOpens b lo hi ys):xs=ys:=by
 rcases h with⟨h1,rfl⟩|⟨h1,rfl⟩<;>rcases k with⟨k1,rfl⟩|⟨k1,rfl⟩<;>first|rfl|exact absurd h1 k1|exact absurd k1 h1
theorem sTradesOpen(w:World)(x:Bx)(lo hi:Int)(h:Rd w x):
  Calls Tryz.prog 52 #[.agg #[.slice (some ⟨x.ga,0,none⟩) x.b.ac.length x.ca,.slice (some ⟨x.gi,0,none⟩) x.b.ic.length x.ci,.slice (some ⟨x.gb,0,none⟩) x.b.bs.length x.cb,.slice (some ⟨x.gl,0,none⟩) x.b.ls.length x.cl,.slice (some ⟨x.gt,0,none⟩) x.b.ts.length x.ct,.int .i64 x.b.lot],.int .i64 lo,.int .i64 hi] w fun e w'=>∃(xs:List Int) (g c:Nat),IsOpens x.b lo hi xs∧xs.length≤x.b.ts.length∧e= .returned (.slice (some ⟨g,0,none⟩) xs.length c)∧Ints.Own w' w.heap.size g xs.length c xs∧Below w.heap.size w w':=by
 obtain⟨b0,h0⟩:=says_of (Ok x.b)
 have H0:=zh h0
 have nt:=h.nt
 have S0R:=zh h
 have S0:=zh ((St.start h 40).step (one_more (w.alloc (.cells #[.slice (some ⟨x.ga,0,none⟩) x.b.ac.length x.ca,.slice (some ⟨x.gi,0,none⟩) x.b.ic.length x.ci,.slice (some ⟨x.gb,0,none⟩) x.b.bs.length x.cb,.slice (some ⟨x.gl,0,none⟩) x.b.ls.length x.cl,.slice (some ⟨x.gt,0,none⟩) x.b.ts.length x.ct,.int .i64 x.b.lot] 40)) (.cells #[] 3)))
 have O0:=zh (Shorts.lit0 (w.alloc (.cells #[.slice (some ⟨x.ga,0,none⟩) x.b.ac.length x.ca,.slice (some ⟨x.gi,0,none⟩) x.b.ic.length x.ci,.slice (some ⟨x.gb,0,none⟩) x.b.bs.length x.cb,.slice (some ⟨x.gl,0,none⟩) x.b.ls.length x.cl,.slice (some ⟨x.gt,0,none⟩) x.b.ts.length x.ct,.int .i64 x.b.lot] 40)) (w.heap.size+1) (g:=w.heap.size+1) (by simp) (by simp))
 clear h0 h
 go_enter Tryz.func52,Tryz.ntmps52
 go_wp2
 generalize (w.alloc (.cells #[.slice (some ⟨x.ga,0,none⟩) x.b.ac.length x.ca,.slice (some ⟨x.gi,0,none⟩) x.b.ic.length x.ci,.slice (some ⟨x.gb,0,none⟩) x.b.bs.length x.cb,.slice (some ⟨x.gl,0,none⟩) x.b.ls.length x.cl,.slice (some ⟨x.gt,0,none⟩) x.b.ts.length x.ct,.int .i64 x.b.lot] 40)).alloc (.cells #[] 3)=w0 at *
 go_loopw [7,8] (fun l j wr=>∃(p:List Int) (g1 c1 k:Nat),l= .slice (some ⟨g1,0,none⟩) p.length c1∧j= .int .i64 k∧k≤x.b.ts.length∧p.length≤k∧Hid (p=openT lo hi (x.b.ts.take k))∧Hid (0<k→Ok x.b)∧Hid (Ints.Own wr (w.heap.size+1) g1 p.length c1 p)∧Hid (St w wr x)) (fun _ j _=>x.b.ts.length-(intOf j).toNat)
 case atStart=>exact⟨[],w.heap.size+1,0,0,rfl,rfl,by omega,by simp,zh rfl,zh (fun e=>absurd e (by omega)),O0,S0⟩
 case round=>
  clear O0 S0
  obtain⟨p,g1,c1,k,rfl,rfl,hk,pl,HP,HO,H1,HS⟩:=hrel
  obtain⟨c0,c1',c2,c3,c4,c5⟩:=(zu HS).c
  by_cases t:k<x.b.ts.length
  ·go_wp2_with fail
   refine(SBooksOk.sBooksOk _ x b0 (zu HS).r (zu H0)).mono ?_
   rintro e w2 ⟨rfl,bb⟩
   have S2:=zh ((zu HS).step bb)
   have O2:=zh ((zu H1).below bb (zu H1).lt.2)
   have B2:=zh (zu S2).b
   clear bb HS H1 c0 c1' c2 c3 c4 c5
   obtain⟨c0,c1',c2,c3,c4,c5⟩:=(zu S2).c
   cases b0
   ·have N:=zh (show IsOpens x.b lo hi p from by
     have k0:k=0:=Nat.eq_zero_of_not_pos (fun e=>(zu H0).no ((zu HO) e))
     subst k0
     exact .inr ⟨(zu H0).no,zu HP⟩)
    clear HP HO
    go_wp2
    go_ret
    exact⟨p,g1,c1,zu N,by omega,rfl,(zu O2).mono (by omega),zu B2⟩
   ·obtain⟨d0,d1,d2,d3,d4,d5,d6,d7⟩:=((zu S2).r.rt k t)
    have NP:=zh (openT_next (ps:=x.b.ts) (k:=k) lo hi t)
    rw[←zu HP] at NP
    have sz:=(zu S2).s
    have S3:=zh ((zu S2).step (one_more w2 (.cells #[.int .i64 (el8 x.b.ts k).1,.int .i64 (el8 x.b.ts k).2.1,.int .i64 (el8 x.b.ts k).2.2.1,.int .i64 (el8 x.b.ts k).2.2.2.1,.int .i64 (el8 x.b.ts k).2.2.2.2.1,.int .i64 (el8 x.b.ts k).2.2.2.2.2.1,.int .i64 (el8 x.b.ts k).2.2.2.2.2.2.1,.int .i64 (el8 x.b.ts k).2.2.2.2.2.2.2] 64)))
    have O3:=zh (Shorts.own_alloc (zu O2) (.cells #[.int .i64 (el8 x.b.ts k).1,.int .i64 (el8 x.b.ts k).2.1,.int .i64 (el8 x.b.ts k).2.2.1,.int .i64 (el8 x.b.ts k).2.2.2.1,.int .i64 (el8 x.b.ts k).2.2.2.2.1,.int .i64 (el8 x.b.ts k).2.2.2.2.2.1,.int .i64 (el8 x.b.ts k).2.2.2.2.2.2.1,.int .i64 (el8 x.b.ts k).2.2.2.2.2.2.2] 64))
    have YES:=zh (zu H0).yes
    generalize el8 x.b.ts k=q at *
    obtain⟨q0,q1,q2,q3,q4,q5,q6,q7⟩:=q
    clear HP
    by_cases own:q7=1
    ·have ob:(q7==1)=true:=by simpa using own
     obtain⟨b1,h1⟩:=says_of (lo≤q0∧q0≤hi)
     have HI:=zh h1
     have OWN:=zh own
     clear own h1
     go_wp2_with fail
     refine(SOk5.sIn q0 lo hi b1 _ (zu HI)).mono ?_
     rintro e v3 ⟨rfl,rfl⟩
     have e0:(w2.alloc (.cells #[.int .i64 q0,.int .i64 q1,.int .i64 q2,.int .i64 q3,.int .i64 q4,.int .i64 q5,.int .i64 q6,.int .i64 q7] 64)).cell? ⟨w2.heap.size,0,none⟩=some (.int .i64 q0):=by simp
     generalize hw3:w2.alloc (.cells #[.int .i64 q0,.int .i64 q1,.int .i64 q2,.int .i64 q3,.int .i64 q4,.int .i64 q5,.int .i64 q6,.int .i64 q7] 64)=w3 at *
     have HW:=zh hw3
     clear hw3
     cases b1
     ·have NP1:Hid (openT lo hi (x.b.ts.take (k+1))=p):=zh (by rw[zu NP,if_neg (fun e=>(zu HI).no e.2),List.append_nil])
      clear NP
      go_wp2
      go_roundw
      case rel=>exact⟨p,g1,c1,k+1,rfl,by go_num,by omega,by omega,zh (zu NP1).symm,zh (fun _=>zu YES),O3,S3⟩
      case measure=>simp[intOf];omega
     ·have NP1:Hid (openT lo hi (x.b.ts.take (k+1))=p++[q0]):=zh (by rw[zu NP,if_pos ⟨zu OWN,(zu HI).yes⟩])
      clear NP
      have bs:=(zu S3).b.size
      have s3:=(zu S3).s
      go_wp2_with (first|(at_builtin;refine Shorts.wp_appI _ rfl _ _ rfl (w.heap.size+1) g1 p.length c1 p w3.heap.size q0 rfl rfl (Shorts.own_alloc (zu O3) _) (by simp) (by omega) (by simp;omega) ?_)|go_in)
      intro g5 c5 w5 o5 gr5 loc5
      have O5:=zh o5
      have S5:=zh (show St w w5 x from by
       have S4:=(zu S3).step (one_more w3 (.cells #[.int .i64 q0] 3))
       have g1l:=(zu O3).lt.1
       have n0:some w.heap.size≠some g1:=fun e=>by injection e;omega
       exact⟨(zu S0R).below (S4.b.grown gr5 S4.b.size (fun j e=>by injection e;omega)),⟨gr5.cell S4.c.c0 n0,gr5.cell S4.c.c1 n0,gr5.cell S4.c.c2 n0,gr5.cell S4.c.c3 n0,gr5.cell S4.c.c4 n0,gr5.cell S4.c.c5 n0⟩,S4.b.grown gr5 S4.b.size (fun j e=>by injection e;omega),Nat.lt_of_lt_of_le S4.s gr5.size⟩)
      clear o5 gr5 loc5
      go_wp2
      go_roundw
      case rel=>exact⟨p++[q0],g5,c5,k+1,by rw[show(p++[q0]).length=p.length+1 by simp],by go_num,by omega,by simp;omega,zh (zu NP1).symm,zh (fun _=>zu YES),zh (by rw[show(p++[q0]).length=p.length+1 by simp];exact zu O5),S5⟩
      case measure=>simp[intOf];omega
    ·have NP1:Hid (openT lo hi (x.b.ts.take (k+1))=p):=zh (by rw[zu NP,if_neg (fun e=>own e.1),List.append_nil])
     have ob:(q7==1)=false:=by simpa using own
     clear NP own
     go_wp2
     go_roundw
     case rel=>exact⟨p,g1,c1,k+1,rfl,by go_num,by omega,by omega,zh (zu NP1).symm,zh (fun _=>zu YES),O3,S3⟩
     case measure=>simp[intOf];omega
  ·obtain rfl:k=x.b.ts.length:=by omega
   have N:=zh (show IsOpens x.b lo hi p from by
    have e:p=openT lo hi x.b.ts:=by rw[zu HP,List.take_of_length_le (by omega)]
    cases b0
    ·have k0:x.b.ts.length=0:=Nat.eq_zero_of_not_pos (fun e=>(zu H0).no ((zu HO) e))
     exact .inr ⟨(zu H0).no,by rw[e,List.eq_nil_of_length_eq_zero k0];rfl⟩
    ·exact .inl ⟨(zu H0).yes,e⟩)
   have B2:=zh (zu HS).b
   clear HP HO
   go_wp2
   go_ret
   exact⟨p,g1,c1,zu N,by omega,rfl,(zu H1).mono (by omega),zu B2⟩
end STell
namespace LawT
open BMem Bks BHelp BkEq LawB
open Ints (Own At)
theorem LB.grown{w W W':World}{y:Ix}{g:Nat}(H:RdI w y)(h:LB w W y)(k:W.grownBy W' (some g))(hg:w.heap.size<g):LB w W' y:=by
 have b:Below w.heap.size w W':=h.b.grown k h.b.size (fun j e=>by injection e;omega)
 have n0:some w.heap.size≠some g:=fun e=>by injection e;omega
 exact⟨H.below b,⟨k.cell h.c.c0 n0,k.cell h.c.c1 n0,k.cell h.c.c2 n0,k.cell h.c.c3 n0,k.cell h.c.c4 n0,k.cell h.c.c5 n0⟩,b,Nat.lt_of_lt_of_le h.s k.size⟩
end LawT
namespace LegApp
open Bals Triples
theorem info2:(Tryz.prog.info? 67).map (fun i=>(i.zero,i.size,i.bytes))=some (some (.agg #[.int .i64 0,.int .i64 0,.int .i64 0]),3,24):=by kernel_rfl
theorem wp_app(u:World){ops:Array Oper}{rest:List Oper}{o:Oper}{a:Act}{Q:Exit→Act→World→Prop}(hgd:o.guard=none)(s x:Operand)
  (ho:o.op= .call {callee:= .builtin .append,args:= #[s,x],argTypes:= #[31,31]})(base g n cap:Nat)(ps:List T3)(vb:Nat)(p q r:Int)
  (hs:a.eval s= .slice (some ⟨g,0,none⟩) n cap)(hx:a.eval x= .slice (some ⟨vb,0,none⟩) 1 1)(hown:Own3 67 u base g n cap ps)(hv:Holds3 u vb 0 (p,q,r))(hn:n≤1048576)(hb:base≤u.heap.size)
  (h:∀g' c' w',Own3 67 w' base g' (n+1) c' (ps++[(p,q,r)])→u.grownBy w' (some g)→(g'=g∨g'=u.heap.size)→wpList Tryz.prog ops Q rest (a.put o.dst (.slice (some ⟨g',0,none⟩) (n+1) c')) w'):wpList Tryz.prog ops Q (o::rest) a u:=by
 obtain⟨i0,hi,hz0,hz1,hz2⟩:=info_parts info2
 have hat:At3 u vb [(p,q,r)]:=by
  intro i hi
  obtain rfl:i=0:=by simpa using hi
  exact hv
 refine wpList_append_own_at u hgd s x 31 ho base 67 i0 (.agg #[.int .i64 0,.int .i64 0,.int .i64 0]) 3 24 Tryz.underlying31 hi hz0 hz1 hz2 rfl (by decide) _ n _ hs hown ⟨vb,0,none⟩ 1 1 (flat3 [(p,q,r)]) hx rfl hat.cells (fun u hu=>flat3_one u _ hu) (by unfold maxLen;omega) (by omega) hb ?_
 intro v' w' own' gr' nil' loc'
 obtain⟨g',c',rfl,o'⟩:=own3_of_row (n':=n+1) (ps:=ps++[(p,q,r)]) own' rfl (by rw[flat3_append]) (by rw[nil'];simp)
 exact h g' c' w' o' gr' (by simpa[Value.ownBlock] using loc')
end LegApp
namespace SLegs
open BMem Bks ILists Trd
open Bals (T3)
open Tup8 (T8 el8)
open Triples (Own3 At3 flat3 flat3_len flat3_one flat3_append own3_of_row)
theorem own_pair(w:World)(a c i q:Int):Own3 67 (w.alloc (.cells #[.int .i64 a,.int .i64 i,.int .i64 (-q),.int .i64 c,.int .i64 i,.int .i64 q] 67)) w.heap.size w.heap.size 2 2 (pairL a c i q):=
 World.ownsRow_lit w #[.int .i64 a,.int .i64 i,.int .i64 (-q),.int .i64 c,.int .i64 i,.int .i64 q] 2 (Nat.le_refl _) (by decide) rfl
theorem sPairO(w:World)(a c i q:Int)(q1:0≤q)(q2:q≤1000000000000000):
  Calls Tryz.prog 77 #[.int .i64 a,.int .i64 c,.int .i64 i,.int .i64 q] w fun e w'=>∃g,e= .returned (.slice (some ⟨g,0,none⟩) 2 2)∧Own3 67 w' w.heap.size g 2 2 (pairL a c i q)∧Below w.heap.size w w':=by
 have A:=zh (own_pair w a c i q)
 go_enter Tryz.func77,Tryz.ntmps77
 go_wp2
 go_ret
 exact⟨w.heap.size,rfl,zu A,(Below.refl _ _).alloc (Nat.le_refl _) _⟩
theorem step_cat3(u:World){ops:Array Oper}{o:Oper}{a:Act}{K:Act→World→Prop}{Q:Exit→Act→World→Prop}{E:Prop}(hgd:o.guard=none)(s x:Operand)
  (ho:o.op= .call {callee:= .builtin .append,args:= #[s,x],argTypes:= #[31,31]})(base g n cap m:Nat)(ps qs:List T3)(vb c:Nat)
  (hs:a.eval s= .slice (some ⟨g,0,none⟩) n cap)(hx:a.eval x= .slice (some ⟨vb,0,none⟩) m c)(hown:Own3 67 u base g n cap ps)(hl:qs.length=m)(hv:At3 u vb qs)(hn:n+m≤1048576)(hb:base≤u.heap.size)
  (h:∀g' c' w',Own3 67 w' base g' (n+m) c' (ps++qs)→u.grownBy w' (some g)→(g'=g∨g'=u.heap.size)→K (a.put o.dst (.slice (some ⟨g',0,none⟩) (n+m) c')) w'):if Region.wanted o (yielded ops a.tmps)=true then Oper.wp Tryz.prog o a u K Q else E:=by
 obtain⟨i0,hi,hz0,hz1,hz2⟩:=info_parts LegApp.info2
 have hw:Region.wanted o (yielded ops a.tmps)=true:=by simp[Region.wanted,hgd]
 rw[if_pos hw]
 obtain⟨v',w',hr,own',gr',nil',loc'⟩:=run_append_own_at (P:=Tryz.prog) u base 31 o.type 67 i0 (.agg #[.int .i64 0,.int .i64 0,.int .i64 0]) 3 24 Tryz.underlying31 hi hz0 hz1 hz2 rfl (by decide) (.slice (some ⟨g,0,none⟩) n cap) n (flat3 ps) hown ⟨vb,0,none⟩ m c (flat3 qs) (by rw[flat3_len,hl]) hv.cells (fun u hu=>flat3_one u _ hu) (by unfold maxLen;omega) (by omega) hb
 unfold Oper.wp execOp
 simp only[ho,resolve,invoke,builtin,Sem.run_bind,Sem.run_pure,Result.andThen_ok,List.map_toArray,List.map_cons,List.map_nil,hs,hx,hr]
 obtain⟨g',c',rfl,o'⟩:=own3_of_row (n':=n+m) (ps:=ps++qs) own' rfl (by rw[flat3_append]) (by rw[nil'];simp)
 exact h g' c' w' o' gr' (by simpa[Value.ownBlock] using loc')
def Six8(w:World)(g:Nat)(b s p q c r:Int):Prop:=w.cell? ⟨g,1,none⟩=some (.int .i64 b)∧w.cell? ⟨g,2,none⟩=some (.int .i64 s)∧w.cell? ⟨g,3,none⟩=some (.int .i64 p)∧w.cell? ⟨g,4,none⟩=some (.int .i64 q)∧w.cell? ⟨g,5,none⟩=some (.int .i64 c)∧w.cell? ⟨g,6,none⟩=some (.int .i64 r)
theorem Six8.below{w w':World}{g B:Nat}{b s p q c r:Int}(h:Six8 w g b s p q c r)(k:Below B w w')(hg:g<B):Six8 w' g b s p q c r:=
 ⟨(k.cell (p:=⟨g,1,none⟩) hg).trans h.1,(k.cell (p:=⟨g,2,none⟩) hg).trans h.2.1,(k.cell (p:=⟨g,3,none⟩) hg).trans h.2.2.1,(k.cell (p:=⟨g,4,none⟩) hg).trans h.2.2.2.1,(k.cell (p:=⟨g,5,none⟩) hg).trans h.2.2.2.2.1,(k.cell (p:=⟨g,6,none⟩) hg).trans h.2.2.2.2.2⟩
theorem sLegs(w:World)(n b s p q c r st:Int)(q1:0≤q)(q2:q≤1000000000000000)(r1:0≤r)(r2:r≤1000000000000000):
  Calls Tryz.prog 28 #[.agg #[.int .i64 n,.int .i64 b,.int .i64 s,.int .i64 p,.int .i64 q,.int .i64 c,.int .i64 r,.int .i64 st]] w fun e w'=>∃g cap,e= .returned (.slice (some ⟨g,0,none⟩) 4 cap)∧Own3 67 w' w.heap.size g 4 cap (legsT (n,b,s,p,q,c,r,st))∧Below w.heap.size w w':=by
 have B0:=zh (show Below w.heap.size w (w.alloc (.cells #[.int .i64 n,.int .i64 b,.int .i64 s,.int .i64 p,.int .i64 q,.int .i64 c,.int .i64 r,.int .i64 st] 64)) from(Below.refl _ _).alloc (Nat.le_refl _) _)
 have C0:=zh (show Six8 (w.alloc (.cells #[.int .i64 n,.int .i64 b,.int .i64 s,.int .i64 p,.int .i64 q,.int .i64 c,.int .i64 r,.int .i64 st] 64)) w.heap.size b s p q c r from by simp[Six8])
 have z0:w.heap.size<(w.alloc (.cells #[.int .i64 n,.int .i64 b,.int .i64 s,.int .i64 p,.int .i64 q,.int .i64 c,.int .i64 r,.int .i64 st] 64)).heap.size:=by simp
 have M1:=trivial
 go_enter Tryz.func28,Tryz.ntmps28
 go_wp2_with fail
 generalize w.alloc (.cells #[.int .i64 n,.int .i64 b,.int .i64 s,.int .i64 p,.int .i64 q,.int .i64 c,.int .i64 r,.int .i64 st] 64)=w1 at *
 have K4:=zu C0
 unfold Six8 at K4
 go_region_held3 (fun w'=>w'.cell? ⟨w.heap.size,1,none⟩=some (.int .i64 b)∧w'.cell? ⟨w.heap.size,2,none⟩=some (.int .i64 s)∧w'.cell? ⟨w.heap.size,3,none⟩=some (.int .i64 p)∧w'.cell? ⟨w.heap.size,4,none⟩=some (.int .i64 q)∧w'.cell? ⟨w.heap.size,5,none⟩=some (.int .i64 c)∧w'.cell? ⟨w.heap.size,6,none⟩=some (.int .i64 r)) (first|exact K4|exact K5|exact K6|exact K7)
  (first|(go_at_call 77;clear M1;refine(sPairO w1.drew b s c r r1 r2).mono ?_;rintro e u1 ⟨g1,rfl,o1,bb⟩;have bW:=zh (show Below w1.heap.size w1 u1 from ILotsFit.below_of_drew bb);have K5:=(zu C0).below (zu bW) z0;unfold Six8 at K5;have O1:=zh (show Own3 67 u1 w1.heap.size g1 2 2 (pairL b s c r) from o1);have z1:=(zu bW).size;clear bb o1)|(go_at_call 77;refine(sPairO u1 s b p q q1 q2).mono ?_;rintro e u2 ⟨g2,rfl,o2,bb2⟩;have bX:=zh ((zu bW).trans (bb2.mono z1));have K6:=(zu C0).below (zu bX) z0;unfold Six8 at K6;have O2:=zh o2;have O3:=zh ((zu O1).below bb2 (zu O1).lt.2);have z2:=bb2.size;clear bb2 o2)|(refine step_cat3 _ (by rfl) _ _ (by rfl) w1.heap.size g1 2 2 2 (pairL b s c r) (pairL s b p q) g2 2 (by rfl) (by rfl) (by exact zu O3) (by rfl) (by exact(zu O2).at) (by omega) (by omega) ?_;intro g3 c3 w3 o3 gr3 loc3;have g1l:=(zu O3).lt.1;have BZ:=zh ((zu bX).grown gr3 (by omega) (fun j hj=>by cases hj;exact g1l));have K7:=(zu C0).below (zu BZ) z0;unfold Six8 at K7;have O4:=zh o3;clear o3 gr3 loc3))
 go_wp2
 go_ret
 exact⟨g3,c3,rfl,(zu O4).rebase (by have:=(zu O4).lt.1;omega),(zu B0).trans ((zu BZ).mono (by omega))⟩
end SLegs
namespace SCarry
open BMem Bks ILists BHelp Ans SBk
open SIssue (six_alloc ow_six_alloc box_six_alloc to_wb off_box ne_true)
open IBalsFit (one_more)
open Lots (Says says_of NoOk)
open Bals (T3)
open Tup5 (T5)
theorem taken_cases(bad short:Bool):(bad=false∧short=false)∨(STake.takeD bad short≠0∧¬(bad=false∧short=false)):=by
 cases bad<;>cases short<;>simp[STake.takeD]
theorem says_false{p:Prop}(h:¬p):Says false p:=⟨fun e=>Bool.noConfusion e,fun r=>absurd r h⟩
theorem taken_len{b:Bk}{a i q way:Int}(h:CanTake b a i q way)(s:Small b):(takenL b a i q way).length≤1048576:=by
 have:=ITake.take_len (ps:=b.ls) (R:=takenL b a i q way) (a:=a) (i:=i) (q:=q) (way:=way) (bad:=false) (short:=false) (says_false (fun n=>n ⟨h.1,h.2.1,h.2.2.1⟩)) (says_false h.2.2.2) rfl
 exact Nat.le_trans this (by omega)
theorem took_lot{b b2:Bk}{a i q way k2 c2:Int}(h:IsTake b a i q way b2 k2 c2)(s:Small b):b2.lot=b.lot∧b2.ls.length≤1048576:=by
 rcases h with⟨h,rfl,_⟩|⟨_,rfl,_⟩
 ·exact⟨rfl,taken_len h s⟩
 ·exact⟨rfl,s.2.2.2.1⟩
end SCarry
namespace SCarryP
open BMem Bks ILists BHelp Ans SBk
open SCarry (taken_cases taken_len took_lot)
open SIssue (six_alloc ow_six_alloc box_six_alloc to_wb off_box ne_true)
open IBalsFit (one_more)
open Lots (Says says_of NoOk)
open Bals (T3)
open Tup5 (T5)
open Tup8 (T8 el8)
open Trd (legsT)
def CarriedP(b:Bk)(x y i q way pr:Int)(b':Bk)(t c:Int):Prop:=
 ∃b2 k2 c2,IsTake b x i q way b2 k2 c2∧((c2≠0∧t=0∧c=c2)∨(c2=0∧IsOpen b2 y i q pr b' c∧t=k2))
theorem pair_formed0{a c i q:Int}(ha:NoOk a)(hc:NoOk c)(hi:NoOk i)(q1:0≤q)(q2:q≤1000000000000000):∀p∈pairL a c i q,NoOk p.1∧NoOk p.2.1∧Bals.Amt p.2.2:=by
 intro p hp
 simp only[pairL,List.mem_cons,List.not_mem_nil,or_false] at hp
 rcases hp with rfl|rfl
 ·exact⟨ha,hi,by unfold Bals.Amt;simp;omega⟩
 ·exact⟨hc,hi,by unfold Bals.Amt;simp;omega⟩
theorem legs_formed{t:T8}(h:TOne t):Bals.Formed (legsT t):=by
 obtain⟨h1,h2,h3,h4,h5,h6,h7,h8,h9⟩:=h
 have a:=pair_formed0 h2 h3 h5 h8.1 h8.2
 have b:=pair_formed0 h3 h2 h4 (by omega) h7.2
 refine⟨by simp[legsT,pairL],fun k hk=>?_⟩
 have m:Bals.el3 (legsT t) k∈legsT t:=Bals.getD_mem hk
 rcases List.mem_append.1 m with m|m
 ·exact a _ m
 ·exact b _ m
theorem legs_even(t:T8):Bals.Even (legsT t):=by
 intro j
 unfold legsT
 rw[Bals.sumI_append,pair_even _ _ _ _ j,pair_even _ _ _ _ j]
 rfl
theorem sCarryP(w:World)(base:Nat)(x:Bx)(fa fb fi fq fk pr:Int)(hpr:0≤pr)(O:Ow w base x)(hlot:0≤x.b.lot∧x.b.lot≤1000000000)(s:Small x.b):
  Calls Tryz.prog 99 #[.agg #[.slice (some ⟨x.ga,0,none⟩) x.b.ac.length x.ca,.slice (some ⟨x.gi,0,none⟩) x.b.ic.length x.ci,.slice (some ⟨x.gb,0,none⟩) x.b.bs.length x.cb,.slice (some ⟨x.gl,0,none⟩) x.b.ls.length x.cl,.slice (some ⟨x.gt,0,none⟩) x.b.ts.length x.ct,.int .i64 x.b.lot],.int .i64 fa,.int .i64 fb,.int .i64 fi,.int .i64 fq,.int .i64 fk,.int .i64 pr] w fun e w'=>∃(y:Bx) (t c:Int),CarriedP x.b fa fb fi fq fk pr y.b t c∧e= .returned (.tuple #[.agg #[.slice (some ⟨y.ga,0,none⟩) y.b.ac.length y.ca,.slice (some ⟨y.gi,0,none⟩) y.b.ic.length y.ci,.slice (some ⟨y.gb,0,none⟩) y.b.bs.length y.cb,.slice (some ⟨y.gl,0,none⟩) y.b.ls.length y.cl,.slice (some ⟨y.gt,0,none⟩) y.b.ts.length y.ct,.int .i64 y.b.lot],.int .i64 t,.int .i64 c])∧Ow w' base y∧Below w.heap.size w w':=by
 obtain⟨bad,hbad⟩:=says_of (¬STake.TakeOk x.b.ls fq fk)
 obtain⟨short,hshort⟩:=says_of (Takes.sumQ (Lots.ownL x.b.ls fa fi)<fq)
 have hpn:decide (pr<0)=false:=decide_eq_false (by omega)
 have HB:=zh hbad
 have HS:=zh hshort
 have R0:=zh (O.rd s)
 have O0:=zh O
 have U0:=zh (ow_up O)
 have S1:=zh (SV.start w x)
 have SM:=zh s
 have HL:=zh hlot
 have nl:=s.2.2.2.1
 clear O s hbad hshort hlot
 go_enter Tryz.func99,Tryz.ntmps99
 go_wp2_with fail
 generalize ((w.alloc (.cells #[.slice (some ⟨x.ga,0,none⟩) x.b.ac.length x.ca,.slice (some ⟨x.gi,0,none⟩) x.b.ic.length x.ci,.slice (some ⟨x.gb,0,none⟩) x.b.bs.length x.cb,.slice (some ⟨x.gl,0,none⟩) x.b.ls.length x.cl,.slice (some ⟨x.gt,0,none⟩) x.b.ts.length x.ct,.int .i64 x.b.lot] 40)).alloc (.cells #[.slice none 0 0,.slice none 0 0,.slice none 0 0,.slice none 0 0,.slice none 0 0,.int .i64 0] 40))=w1 at *
 refine(STake.sTake w1 x.gl _ x.cl x.b.ls (takenL x.b fa fi fq fk) fa fi fq fk bad short rfl nl ((zu R0).below (zu S1).b).ll ((zu R0).below (zu S1).b).rl (zu HB) (zu HS) (fun _ _=>rfl)).mono ?_
 rintro e w2 ⟨g2,k2,rfl,o2,bb⟩
 have S2:=zh ((zu S1).step bb)
 have OX:=zh ((zu O0).below (zu S2).b (Nat.le_refl _))
 have BW:=zh (zu S2).b
 have O2:=zh o2
 have g2l:=o2.lt.1
 have z1:=(zu S1).v.lt.2
 have zb:=(zu O0).oa.lt
 have z2:=(zu S2).v.lt.2
 clear o2 bb
 have c0:=(zu S2).x.c0
 have c1:=(zu S2).x.c1
 have c2:=(zu S2).x.c2
 have c3:=(zu S2).x.c3
 have c4:=(zu S2).x.c4
 have c5:=(zu S2).x.c5
 have x3:=(zu S2).x.free 3
 rcases taken_cases bad short with⟨rfl,rfl⟩|⟨hne,hno⟩
 ·have CT:=zh (show CanTake x.b fa fi fq fk from by
   have hb:=Classical.byContradiction (zu HB).no
   exact⟨hb.1,hb.2.1,hb.2.2,(zu HS).no⟩)
  obtain⟨R,hR⟩:∃R,Hid (takenL x.b fa fi fq fk=R):=⟨_,rfl⟩
  obtain⟨ck,hck⟩:∃ck,Hid (Takes.takeC fk (Lots.ownL x.b.ls fa fi) fq=ck):=⟨_,rfl⟩
  have O2:=zh (show Tup5.Own5 120 w2 w1.heap.size g2 R.length k2 R from by rw[←zu hR];exact zu O2)
  have OY:=zh (ow_withL (lot:=x.b.lot) (zu OX) ((zu O2).rebase (base':=base) (by omega)))
  have F1:=zh (off_withL (c:=k2) (qs:=R) (lot:=x.b.lot) (zu U0) (Nat.le_refl w.heap.size) (show w.heap.size<g2 by omega))
  have TK:=zh (show IsTake x.b fa fi fq fk (withL x g2 k2 R x.b.lot).b ck 0 from .inl ⟨zu CT,by rw[←zu hR],(zu hck).symm,rfl⟩)
  have SY:=zh (show Small (withL x g2 k2 R x.b.lot).b from by
   have:=taken_len (zu CT) (zu SM)
   rw[zu hR] at this
   obtain⟨a,b,c,d,e⟩:=zu SM
   exact⟨a,b,c,this,e⟩)
  rw[show(STake.takeA x.b.ls (takenL x.b fa fi fq fk) false false).length=R.length from by rw[←zu hR];rfl,show STake.takeK (Takes.takeC fk (Lots.ownL x.b.ls fa fi) fq) false false=ck from by rw[←zu hck];rfl,show STake.takeD false false=0 from rfl]
  go_wp2_with fail
  refine(sOpenB _ base (withL x g2 k2 R x.b.lot) fb fi fq pr (ow_set (zu OY) (zu F1) 3 _) (zu HL) (zu SY)).mono ?_
  rintro e w3 ⟨y,c,ho,rfl,o3,bb⟩
  have V3:=zh (Box.below (row_set (zu S2).v (show w.heap.size+1≠w.heap.size by omega) 3 (.slice (some ⟨g2,0,none⟩) R.length k2)) bb (by simpa using z2))
  have B3:=zh (((zu BW).setCell (p:=⟨w.heap.size,3,none⟩) (Nat.le_refl _) _).trans (bb.mono (by simpa using(zu BW).size)))
  have O3:=zh o3
  have HO:=zh ho
  have F3:=zh (off_box o3 (zu V3))
  have l3:=(zu V3).lt.2
  have l4:w.heap.size+1≠w3.heap.size:=by omega
  clear bb o3 ho c0 c1 c2 c3 c4 c5 x3
  obtain⟨r0,r1,r2,r3,r4,r5,f0,f1,f2,f3,f4,f5⟩:=Box.all (zu V3)
  go_wp2
  refine to_wb (fun W=>Box W w.heap.size (w.heap.size+1) (.slice (some ⟨y.ga,0,none⟩) y.b.ac.length y.ca) (.slice (some ⟨y.gi,0,none⟩) y.b.ic.length y.ci) (.slice (some ⟨y.gb,0,none⟩) y.b.bs.length y.cb) (.slice (some ⟨y.gl,0,none⟩) y.b.ls.length y.cl) (.slice (some ⟨y.gt,0,none⟩) y.b.ts.length y.ct) (.int .i64 y.b.lot)∧Below w.heap.size w W∧Ow W base y) ?_ ?_
  ·exact⟨box_six_alloc (zu V3) _ _ _ _ _ _ _,six_alloc (zu B3) (zu B3).size (by omega) _ _ _ _ _ _ _,ow_six_alloc (zu O3) (zu F3) (Nat.le_refl _) _ _ _ _ _ _ _⟩
  rintro W ⟨X,B,OW⟩
  have p0:=X.c0
  have p1:=X.c1
  have p2:=X.c2
  have p3:=X.c3
  have p4:=X.c4
  have p5:=X.c5
  exact bodyPost_ret (v:= .tuple #[.agg #[.slice (some ⟨y.ga,0,none⟩) y.b.ac.length y.ca,.slice (some ⟨y.gi,0,none⟩) y.b.ic.length y.ci,.slice (some ⟨y.gb,0,none⟩) y.b.bs.length y.cb,.slice (some ⟨y.gl,0,none⟩) y.b.ls.length y.cl,.slice (some ⟨y.gt,0,none⟩) y.b.ts.length y.ct,.int .i64 y.b.lot],.int .i64 ck,.int .i64 c]) (by simp[results,Tryz.results99,go_sem,p0,p1,p2,p3,p4,p5]) rfl ⟨y,ck,c,⟨_,ck,0,zu TK,.inr ⟨rfl,zu HO,rfl⟩⟩,rfl,OW,B⟩
 ·have CT:=zh (show ¬CanTake x.b fa fi fq fk from fun h=>hno ⟨(zu HB).not (fun r=>r ⟨h.1,h.2.1,h.2.2.1⟩),(zu HS).not h.2.2.2⟩)
  obtain⟨c,hc⟩:∃c,Hid (STake.takeD bad short=c):=⟨_,rfl⟩
  have cb:(c !=0)=true:=by rw[←zu hc];simpa using hne
  rw[zu hc]
  clear hne hno
  obtain⟨r0,r1,r2,r3,r4,r5,f0,f1,f2,f3,f4,f5⟩:=Box.all ((zu S2).v)
  go_wp2
  refine bodyPost_ret (v:= .tuple #[.agg #[.slice (some ⟨x.ga,0,none⟩) x.b.ac.length x.ca,.slice (some ⟨x.gi,0,none⟩) x.b.ic.length x.ci,.slice (some ⟨x.gb,0,none⟩) x.b.bs.length x.cb,.slice (some ⟨x.gl,0,none⟩) x.b.ls.length x.cl,.slice (some ⟨x.gt,0,none⟩) x.b.ts.length x.ct,.int .i64 x.b.lot],.int .i64 0,.int .i64 5]) (by simp[results,Tryz.results99,go_sem,r0,r1,r2,r3,r4,r5]) rfl ⟨x,0,5,⟨x.b,0,5,.inr ⟨zu CT,rfl,rfl,rfl⟩,.inl ⟨by omega,rfl,rfl⟩⟩,rfl,?_,?_⟩
  ·exact ow_six (zu OX) (off_up (zu U0) (by omega)) _ _ _ _ _ _
  ·exact Ans.six (zu BW) (by omega) _ _ _ _ _ _
end SCarryP
namespace SMove
open BMem Bks ILists BHelp Ans SBk
open IBalsFit (one_more)
open Lots (Says says_of NoOk)
open Quieter (Near near_is quiet_near)
open Bals (T3)
open Tup5 (T5)
open SIssue (posted_small posted_lot six_alloc ow_six_alloc box_six_alloc to_wb off_box ne_true eq_false)
def AnsM(told:Prop)(P:Bk→Int→Int→Prop)(w:World)(e:Ending)(w':World):Prop:=
 (¬told∧e= .returned (.tuple #[.agg #[.slice none 0 0,.slice none 0 0,.slice none 0 0,.slice none 0 0,.slice none 0 0,.int .i64 0],.int .i64 0,.int .i64 1])∧Below w.heap.size w w')∨
 (told∧∃(z:Bx) (t c:Int),P z.b t c∧e= .returned (.tuple #[.agg #[.slice (some ⟨z.ga,0,none⟩) z.b.ac.length z.ca,.slice (some ⟨z.gi,0,none⟩) z.b.ic.length z.ci,.slice (some ⟨z.gb,0,none⟩) z.b.bs.length z.cb,.slice (some ⟨z.gl,0,none⟩) z.b.ls.length z.cl,.slice (some ⟨z.gt,0,none⟩) z.b.ts.length z.ct,.int .i64 z.b.lot],.int .i64 t,.int .i64 c])∧Ow w' w.heap.size z∧Below w.heap.size w w')
end SMove
namespace SSettle
open BMem Bks ILists BHelp Ans SBk Trd TBox
open IBalsFit (one_more)
open Lots (Says says_of NoOk)
open Tup8 (T8 el8 Own8)
open SIssue (posted_small posted_lot to_wb off_box eq_false ne_true)
open SMove (AnsM)
open SCarryP (CarriedP legs_formed legs_even)
def ToldS(b:Bk)(no fk:Int):Prop:=Ok b∧NoOk no∧(1≤fk∧fk≤3)
theorem hold14{w W W':World}{x:Bx}{p0 p1 p2 p3 p4 p5 p6 p7:Int}{g:Nat}(A:SR w W x)(X:Box8 W w.heap.size g (p0,p1,p2,p3,p4,p5,p6,p7))(k:Below W.heap.size W W'):W'.cell? ⟨w.heap.size,0,none⟩=some (.slice (some ⟨x.ga,0,none⟩) x.b.ac.length x.ca)∧W'.cell? ⟨w.heap.size,1,none⟩=some (.slice (some ⟨x.gi,0,none⟩) x.b.ic.length x.ci)∧W'.cell? ⟨w.heap.size,2,none⟩=some (.slice (some ⟨x.gb,0,none⟩) x.b.bs.length x.cb)∧W'.cell? ⟨w.heap.size,3,none⟩=some (.slice (some ⟨x.gl,0,none⟩) x.b.ls.length x.cl)∧W'.cell? ⟨w.heap.size,4,none⟩=some (.slice (some ⟨x.gt,0,none⟩) x.b.ts.length x.ct)∧W'.cell? ⟨w.heap.size,5,none⟩=some (.int .i64 x.b.lot)∧W'.cell? ⟨g,0,none⟩=some (.int .i64 p0)∧W'.cell? ⟨g,1,none⟩=some (.int .i64 p1)∧W'.cell? ⟨g,2,none⟩=some (.int .i64 p2)∧W'.cell? ⟨g,3,none⟩=some (.int .i64 p3)∧W'.cell? ⟨g,4,none⟩=some (.int .i64 p4)∧W'.cell? ⟨g,5,none⟩=some (.int .i64 p5)∧W'.cell? ⟨g,6,none⟩=some (.int .i64 p6)∧W'.cell? ⟨g,7,none⟩=some (.int .i64 p7):=by
 have A':=A.step k
 have X':=X.below k X.lt.2
 exact⟨A'.c.c0,A'.c.c1,A'.c.c2,A'.c.c3,A'.c.c4,A'.c.c5,X'.c0,X'.c1,X'.c2,X'.c3,X'.c4,X'.c5,X'.c6,X'.c7⟩
theorem posted_ts{b b':Bk}{ls:List Bals.T3}{c:Int}(h:IsPosted b ls b' c):b'.ts=b.ts:=by
 obtain⟨qs,pc,hp,⟨_,rfl,_⟩|⟨_,rfl,_⟩|⟨_,rfl,_⟩|⟨_,rfl,_⟩⟩:=h
 all_goals rfl
theorem carried_ts{b b':Bk}{x y i q way pr t:Int}(h:CarriedP b x y i q way pr b' t 0):b'.ts=b.ts:=by
 obtain⟨b2,k2,c2,ht,⟨hne,_,hc⟩|⟨rfl,ho,rfl⟩⟩:=h
 ·exact absurd hc.symm hne
 ·have e1:b2.ts=b.ts:=by
   rcases ht with⟨_,rfl,_,_⟩|⟨_,rfl,_,_⟩<;>rfl
  rcases ho with⟨_,rfl,_⟩|⟨_,rfl,_⟩
  ·exact e1
  ·exact e1
theorem to_wc{K:Act→World→Prop}{a:Act}{W:World}(Pr:World→Prop)(h:Pr W)(k:∀W,Pr W→K a W):K a W:=k W h
theorem sPost4(w:World)(base:Nat)(x:Bx)(gL capL:Nat)(t:T8)(O:Ow w base x)(LI:Lists x.b)(s:Small x.b)(o:Triples.Own3 67 w base gL 4 capL (legsT t))(ht:TOne t):
  Calls Tryz.prog 98 #[.agg #[.slice (some ⟨x.ga,0,none⟩) x.b.ac.length x.ca,.slice (some ⟨x.gi,0,none⟩) x.b.ic.length x.ci,.slice (some ⟨x.gb,0,none⟩) x.b.bs.length x.cb,.slice (some ⟨x.gl,0,none⟩) x.b.ls.length x.cl,.slice (some ⟨x.gt,0,none⟩) x.b.ts.length x.ct,.int .i64 x.b.lot],.slice (some ⟨gL,0,none⟩) 4 capL] w fun e w'=>∃(y:Bx) (c:Int),IsPosted x.b (legsT t) y.b c∧e= .returned (.tuple #[.agg #[.slice (some ⟨y.ga,0,none⟩) y.b.ac.length y.ca,.slice (some ⟨y.gi,0,none⟩) y.b.ic.length y.ci,.slice (some ⟨y.gb,0,none⟩) y.b.bs.length y.cb,.slice (some ⟨y.gl,0,none⟩) y.b.ls.length y.cl,.slice (some ⟨y.gt,0,none⟩) y.b.ts.length y.ct,.int .i64 y.b.lot],.int .i64 c])∧Ow w' base y∧Below w.heap.size w w':=
 sPost w base x gL capL (legsT t) O LI s (show 4≤1048576 by omega) o.lt.2 o.at (legs_formed ht) (legs_even t)
theorem sSettle(w:World)(x:Bx)(no fk:Int)(hr:Rd w x):
  Calls Tryz.prog 54 #[.agg #[.slice (some ⟨x.ga,0,none⟩) x.b.ac.length x.ca,.slice (some ⟨x.gi,0,none⟩) x.b.ic.length x.ci,.slice (some ⟨x.gb,0,none⟩) x.b.bs.length x.cb,.slice (some ⟨x.gl,0,none⟩) x.b.ls.length x.cl,.slice (some ⟨x.gt,0,none⟩) x.b.ts.length x.ct,.int .i64 x.b.lot],.int .i64 no,.int .i64 fk] w (AnsM (ToldS x.b no fk) (IsSettle x.b no fk) w):=by
 obtain⟨b0,h0⟩:=says_of (Ok x.b)
 obtain⟨b1,h1⟩:=says_of (NoOk no)
 obtain⟨b2,h2⟩:=says_of (1≤fk∧fk≤3)
 have H0:=zh h0
 have H1:=zh h1
 have H2:=zh h2
 have S0:=zh (SR.start hr)
 have HR:=zh hr
 clear h0 h1 h2 hr
 go_enter Tryz.func54,Tryz.ntmps54
 go_wp2_with fail
 refine(SBooksOk.sBooksOk _ x b0 (zu S0).r (zu H0)).mono ?_
 rintro e w1 ⟨rfl,bb⟩
 have S1:=zh ((zu S0).step bb)
 have B1:=zh (zu S1).b
 clear bb
 obtain⟨c0,c1,c2,c3,c4,c5⟩:=(zu S1).c
 obtain⟨r0,r1,r2,r3,r4,r5,f0,f1,f2,f3,f4,f5⟩:=Box.all ((zu S1).v)
 cases b0
 ·have N:=zh (show ¬ToldS x.b no fk from fun hh=>(zu H0).no hh.1)
  go_wp2
  refine bodyPost_ret (v:= .tuple #[.agg #[.slice none 0 0,.slice none 0 0,.slice none 0 0,.slice none 0 0,.slice none 0 0,.int .i64 0],.int .i64 0,.int .i64 1]) (by simp[results,Tryz.results54,go_sem,r0,r1,r2,r3,r4,r5]) rfl (.inl ⟨zu N,rfl,?_⟩)
  exact six (zu B1) (by omega) _ _ _ _ _ _
 go_wp2_with fail
 refine(SOk5.sNo no b1 _ (zu H1)).mono ?_
 rintro e v1 ⟨rfl,rfl⟩
 cases b1
 ·have N:=zh (show ¬ToldS x.b no fk from fun hh=>(zu H1).no hh.2.1)
  go_wp2
  refine bodyPost_ret (v:= .tuple #[.agg #[.slice none 0 0,.slice none 0 0,.slice none 0 0,.slice none 0 0,.slice none 0 0,.int .i64 0],.int .i64 0,.int .i64 1]) (by simp[results,Tryz.results54,go_sem,r0,r1,r2,r3,r4,r5]) rfl (.inl ⟨zu N,rfl,?_⟩)
  exact six (zu B1) (by omega) _ _ _ _ _ _
 go_wp2_with fail
 refine(SOk5.sIn fk 1 3 b2 _ (zu H2)).mono ?_
 rintro e v2 ⟨rfl,rfl⟩
 cases b2
 ·have N:=zh (show ¬ToldS x.b no fk from fun hh=>(zu H2).no hh.2.2)
  go_wp2
  refine bodyPost_ret (v:= .tuple #[.agg #[.slice none 0 0,.slice none 0 0,.slice none 0 0,.slice none 0 0,.slice none 0 0,.int .i64 0],.int .i64 0,.int .i64 1]) (by simp[results,Tryz.results54,go_sem,r0,r1,r2,r3,r4,r5]) rfl (.inl ⟨zu N,rfl,?_⟩)
  exact six (zu B1) (by omega) _ _ _ _ _ _
 have TT:=zh (show ToldS x.b no fk from⟨(zu H0).yes,(zu H1).yes,(zu H2).yes⟩)
 have LI:=zh (zu H0).yes.1
 have SM:=zh (ok_small (zu H0).yes)
 have nt:x.b.ts.length≤1048576:=(zu HR).nt
 clear H0 H1 H2 S0
 go_wp2_with fail
 refine(STrd.sOpenAt _ x no (zu S1).r).mono ?_
 rintro e w2 ⟨r,c,ho,rfl,bb⟩
 have S2:=zh ((zu S1).step bb)
 clear bb
 clear c0 c1 c2 c3 c4 c5 r0 r1 r2 r3 r4 r5 f0 f1 f2 f3 f4 f5
 obtain⟨c0,c1,c2,c3,c4,c5⟩:=(zu S2).c
 obtain⟨r0,r1,r2,r3,r4,r5,f0,f1,f2,f3,f4,f5⟩:=Box.all ((zu S2).v)
 rcases ho with⟨hn,rfl,rfl⟩|⟨k,hk,rfl,⟨hst,rfl⟩|⟨hst,rfl⟩⟩
 ·have I3:=zh (show IsSettle x.b no fk x.b 0 3 from .inl ⟨hn,rfl,rfl,rfl⟩)
  clear hn
  go_wp2_with fail
  refine(SCopy.sCopy _ x (zu S2).r).mono ?_
  rintro e w8 ⟨z,hz,rfl,oz,bb⟩
  have S8:=zh ((zu S2).step bb)
  have OZ:=zh (oz.rebase (zu S2).b.size)
  have LZ:=zh (ow_lo oz)
  have zl:=(zu S2).v.lt.2
  have IZ:=zh (show IsSettle x.b no fk z.b 0 3 from by rw[hz];exact(zu I3))
  clear bb oz hz
  clear c0 c1 c2 c3 c4 c5 r0 r1 r2 r3 r4 r5 f0 f1 f2 f3 f4 f5
  obtain⟨c0,c1,c2,c3,c4,c5⟩:=(zu S8).c
  obtain⟨r0,r1,r2,r3,r4,r5,f0,f1,f2,f3,f4,f5⟩:=Box.all ((zu S8).v)
  go_wp2
  refine bodyPost_ret (v:= .tuple #[.agg #[.slice (some ⟨z.ga,0,none⟩) z.b.ac.length z.ca,.slice (some ⟨z.gi,0,none⟩) z.b.ic.length z.ci,.slice (some ⟨z.gb,0,none⟩) z.b.bs.length z.cb,.slice (some ⟨z.gl,0,none⟩) z.b.ls.length z.cl,.slice (some ⟨z.gt,0,none⟩) z.b.ts.length z.ct,.int .i64 z.b.lot],.int .i64 0,.int .i64 3]) (by simp[results,Tryz.results54,go_sem,r0,r1,r2,r3,r4,r5]) rfl (.inr ⟨zu TT,z,0,3,zu IZ,rfl,?_,?_⟩)
  ·exact ow_six (zu OZ) (off_lo (zu LZ) zl) _ _ _ _ _ _
  ·exact six (zu S8).b (by omega) _ _ _ _ _ _
 ·have I3:=zh (show IsSettle x.b no fk x.b 0 6 from .inr ⟨k,hk,.inl ⟨hst,rfl,rfl,rfl⟩⟩)
  clear hk hst
  go_wp2_with fail
  refine(SCopy.sCopy _ x (zu S2).r).mono ?_
  rintro e w8 ⟨z,hz,rfl,oz,bb⟩
  have S8:=zh ((zu S2).step bb)
  have OZ:=zh (oz.rebase (zu S2).b.size)
  have LZ:=zh (ow_lo oz)
  have zl:=(zu S2).v.lt.2
  have IZ:=zh (show IsSettle x.b no fk z.b 0 6 from by rw[hz];exact(zu I3))
  clear bb oz hz
  clear c0 c1 c2 c3 c4 c5 r0 r1 r2 r3 r4 r5 f0 f1 f2 f3 f4 f5
  obtain⟨c0,c1,c2,c3,c4,c5⟩:=(zu S8).c
  obtain⟨r0,r1,r2,r3,r4,r5,f0,f1,f2,f3,f4,f5⟩:=Box.all ((zu S8).v)
  go_wp2
  refine bodyPost_ret (v:= .tuple #[.agg #[.slice (some ⟨z.ga,0,none⟩) z.b.ac.length z.ca,.slice (some ⟨z.gi,0,none⟩) z.b.ic.length z.ci,.slice (some ⟨z.gb,0,none⟩) z.b.bs.length z.cb,.slice (some ⟨z.gl,0,none⟩) z.b.ls.length z.cl,.slice (some ⟨z.gt,0,none⟩) z.b.ts.length z.ct,.int .i64 z.b.lot],.int .i64 0,.int .i64 6]) (by simp[results,Tryz.results54,go_sem,r0,r1,r2,r3,r4,r5]) rfl (.inr ⟨zu TT,z,0,6,zu IZ,rfl,?_,?_⟩)
  ·exact ow_six (zu OZ) (off_lo (zu LZ) zl) _ _ _ _ _ _
  ·exact six (zu S8).b (by omega) _ _ _ _ _ _
 have t:=hk.1
 have KK:=zh hk
 have HST:=zh hst
 have TO:=zh ((zu LI).2.2.2.2.1.2 k t).1
 obtain⟨d0,d1,d2,d3,d4,d5,d6,d7⟩:=(zu S2).r.rt k t
 obtain⟨p,hp⟩:∃p,Hid (el8 x.b.ts k=p):=⟨_,rfl⟩
 have HPP:=hp
 rw[zu hp] at TO HST d0 d1 d2 d3 d4 d5 d6 d7
 obtain⟨p0,p1,p2,p3,p4,p5,p6,p7⟩:=p
 have T3:=zh (Box8.made (w:=w2) (base:=w.heap.size) (g:=w2.heap.size) (p0,p1,p2,p3,p4,p5,p6,p7) (zu S2).b.size rfl)
 have S3:=zh ((zu S2).step (one_more w2 (.cells #[.int .i64 p0,.int .i64 p1,.int .i64 p2,.int .i64 p3,.int .i64 p4,.int .i64 p5,.int .i64 p6,.int .i64 p7] 64)))
 clear hk hst hp
 go_wp2_with fail
 generalize w2.alloc (.cells #[.int .i64 p0,.int .i64 p1,.int .i64 p2,.int .i64 p3,.int .i64 p4,.int .i64 p5,.int .i64 p6,.int .i64 p7] 64)=w3 at *
 have q1:0≤p4:=by have:=(zu TO).2.2.2.2.2.2.1.1;simp at this;omega
 have q2:p4≤1000000000000000:=(zu TO).2.2.2.2.2.2.1.2
 have q3:0≤p6:=(zu TO).2.2.2.2.2.2.2.1.1
 have q4:p6≤1000000000000000:=(zu TO).2.2.2.2.2.2.2.1.2
 have t3:=(zu T3).lt
 go_region_held3 (fun w'=>w'.cell? ⟨w.heap.size,0,none⟩=some (.slice (some ⟨x.ga,0,none⟩) x.b.ac.length x.ca)∧w'.cell? ⟨w.heap.size,1,none⟩=some (.slice (some ⟨x.gi,0,none⟩) x.b.ic.length x.ci)∧w'.cell? ⟨w.heap.size,2,none⟩=some (.slice (some ⟨x.gb,0,none⟩) x.b.bs.length x.cb)∧w'.cell? ⟨w.heap.size,3,none⟩=some (.slice (some ⟨x.gl,0,none⟩) x.b.ls.length x.cl)∧w'.cell? ⟨w.heap.size,4,none⟩=some (.slice (some ⟨x.gt,0,none⟩) x.b.ts.length x.ct)∧w'.cell? ⟨w.heap.size,5,none⟩=some (.int .i64 x.b.lot)∧w'.cell? ⟨w2.heap.size,0,none⟩=some (.int .i64 p0)∧w'.cell? ⟨w2.heap.size,1,none⟩=some (.int .i64 p1)∧w'.cell? ⟨w2.heap.size,2,none⟩=some (.int .i64 p2)∧w'.cell? ⟨w2.heap.size,3,none⟩=some (.int .i64 p3)∧w'.cell? ⟨w2.heap.size,4,none⟩=some (.int .i64 p4)∧w'.cell? ⟨w2.heap.size,5,none⟩=some (.int .i64 p5)∧w'.cell? ⟨w2.heap.size,6,none⟩=some (.int .i64 p6)∧w'.cell? ⟨w2.heap.size,7,none⟩=some (.int .i64 p7)) (first|exact hold14 (zu S3) (zu T3) (by repeat(first|with_reducible exact zu cA|with_reducible exact zu cB|with_reducible exact zu cC|with_reducible exact zu cD|with_reducible exact zu cE|with_reducible exact zu cF|with_reducible exact Below.refl _ _|with_reducible refine Below.drew ?_|(with_reducible refine Below.alloc ?_ ?hle _;case hle=>first|exact Nat.le_refl _|omega|(simp;omega)|simp)|(with_reducible refine Ans.six ?_ ?hle _ _ _ _ _ _;case hle=>first|exact Nat.le_refl _|omega|(simp;omega))))|exact hold14 (zu A1) (zu X1) (by repeat(first|with_reducible exact zu cA|with_reducible exact zu cB|with_reducible exact zu cC|with_reducible exact zu cD|with_reducible exact zu cE|with_reducible exact zu cF|with_reducible exact Below.refl _ _|with_reducible refine Below.drew ?_|(with_reducible refine Below.alloc ?_ ?hle _;case hle=>first|exact Nat.le_refl _|omega|(simp;omega)|simp)|(with_reducible refine Ans.six ?_ ?hle _ _ _ _ _ _;case hle=>first|exact Nat.le_refl _|omega|(simp;omega))))|exact hold14 (zu A2) (zu X2) (by repeat(first|with_reducible exact zu cA|with_reducible exact zu cB|with_reducible exact zu cC|with_reducible exact zu cD|with_reducible exact zu cE|with_reducible exact zu cF|with_reducible exact Below.refl _ _|with_reducible refine Below.drew ?_|(with_reducible refine Below.alloc ?_ ?hle _;case hle=>first|exact Nat.le_refl _|omega|(simp;omega)|simp)|(with_reducible refine Ans.six ?_ ?hle _ _ _ _ _ _;case hle=>first|exact Nat.le_refl _|omega|(simp;omega))))|exact hold14 (zu A3) (zu X3) (by repeat(first|with_reducible exact zu cA|with_reducible exact zu cB|with_reducible exact zu cC|with_reducible exact zu cD|with_reducible exact zu cE|with_reducible exact zu cF|with_reducible exact Below.refl _ _|with_reducible refine Below.drew ?_|(with_reducible refine Below.alloc ?_ ?hle _;case hle=>first|exact Nat.le_refl _|omega|(simp;omega)|simp)|(with_reducible refine Ans.six ?_ ?hle _ _ _ _ _ _;case hle=>first|exact Nat.le_refl _|omega|(simp;omega)))))
  (first|(go_at_call 53;refine(SCopy.sCopy _ x ((zu S3).r.below (by repeat(first|with_reducible exact zu cA|with_reducible exact zu cB|with_reducible exact zu cC|with_reducible exact zu cD|with_reducible exact zu cE|with_reducible exact zu cF|with_reducible exact Below.refl _ _|with_reducible refine Below.drew ?_|(with_reducible refine Below.alloc ?_ ?hle _;case hle=>first|exact Nat.le_refl _|omega|(simp;omega)|simp)|(with_reducible refine Ans.six ?_ ?hle _ _ _ _ _ _;case hle=>first|exact Nat.le_refl _|omega|(simp;omega)))))).mono ?_;rintro e u1 ⟨z,hz,rfl,oz,bb⟩;have BB1:=zh bb;have cA:=zh (show Below w3.heap.size w3 u1 from Below.trans (by repeat(first|with_reducible exact zu cA|with_reducible exact zu cB|with_reducible exact zu cC|with_reducible exact zu cD|with_reducible exact zu cE|with_reducible exact zu cF|with_reducible exact Below.refl _ _|with_reducible refine Below.drew ?_|(with_reducible refine Below.alloc ?_ ?hle _;case hle=>first|exact Nat.le_refl _|omega|(simp;omega)|simp)|(with_reducible refine Ans.six ?_ ?hle _ _ _ _ _ _;case hle=>first|exact Nat.le_refl _|omega|(simp;omega)))) (bb.mono (by simp)));have sA:=(zu cA).size;(first|(have V0:=zh (Box.below (Box.made (w:=w3.drew) (base:=w.heap.size) (g:=w3.heap.size) (.slice none 0 0) (.slice none 0 0) (.slice none 0 0) (.slice none 0 0) (.slice none 0 0) (.int .i64 0) (by first|omega|(simp;omega)) rfl) bb (by simp)))|skip);have A1:=zh ((zu S3).step (zu cA));have X1:=zh ((zu T3).below (zu cA) t3.2);have HZ:=zh hz;have OZ:=zh (show Ow u1 w3.heap.size z from oz.rebase (by simp));clear bb hz oz)|(go_at_call 28;refine(SLegs.sLegs _ p0 p1 p2 p3 p4 p5 p6 p7 q1 q2 q3 q4).mono ?_;rintro e u2 ⟨gL,cL,rfl,oL,bb2⟩;have BB2:=zh bb2;have cB:=zh (show Below u1.heap.size u1 u2 from Below.trans (by repeat(first|with_reducible exact zu cA|with_reducible exact zu cB|with_reducible exact zu cC|with_reducible exact zu cD|with_reducible exact zu cE|with_reducible exact zu cF|with_reducible exact Below.refl _ _|with_reducible refine Below.drew ?_|(with_reducible refine Below.alloc ?_ ?hle _;case hle=>first|exact Nat.le_refl _|omega|(simp;omega)|simp)|(with_reducible refine Ans.six ?_ ?hle _ _ _ _ _ _;case hle=>first|exact Nat.le_refl _|omega|(simp;omega)))) (bb2.mono (by simp)));have cC:=zh ((zu cA).trans ((zu cB).mono (zu cA).size));have sB:=(zu cB).size;(first|(have V0:=zh (Box.below (zu V0) bb2 (by have:=(zu V0).lt.2;first|exact this|(simp;omega))))|(have V0:=zh (Box.below (Box.made (w:=u1) (base:=w.heap.size) (g:=u1.heap.size) (.slice none 0 0) (.slice none 0 0) (.slice none 0 0) (.slice none 0 0) (.slice none 0 0) (.int .i64 0) (by first|omega|(simp;omega)) rfl) bb2 (by simp)))|skip);have A2:=zh ((zu A1).step (zu cB));have X2:=zh ((zu X1).below (zu cB) (zu X1).lt.2);have OL:=zh (oL.rebase (base':=w3.heap.size) (by have h1:=oL.lt.1;have h2:=(zu cA).size;(try simp at h1);omega));have OZ2:=zh ((zu OZ).below (zu cB) (Nat.le_refl _));clear bb2 oL)|(go_at_call 98;refine(sPost4 _ w3.heap.size z gL cL (p0,p1,p2,p3,p4,p5,p6,p7) ((zu OZ2).below (by repeat(first|with_reducible exact zu cA|with_reducible exact zu cB|with_reducible exact zu cC|with_reducible exact zu cD|with_reducible exact zu cE|with_reducible exact zu cF|with_reducible exact Below.refl _ _|with_reducible refine Below.drew ?_|(with_reducible refine Below.alloc ?_ ?hle _;case hle=>first|exact Nat.le_refl _|omega|(simp;omega)|simp)|(with_reducible refine Ans.six ?_ ?hle _ _ _ _ _ _;case hle=>first|exact Nat.le_refl _|omega|(simp;omega)))) (Nat.le_refl u2.heap.size)) (by rw[zu HZ];exact zu LI) (by rw[zu HZ];exact zu SM) ((zu OL).below (B:=u2.heap.size) (by repeat(first|with_reducible exact zu cA|with_reducible exact zu cB|with_reducible exact zu cC|with_reducible exact zu cD|with_reducible exact zu cE|with_reducible exact zu cF|with_reducible exact Below.refl _ _|with_reducible refine Below.drew ?_|(with_reducible refine Below.alloc ?_ ?hle _;case hle=>first|exact Nat.le_refl _|omega|(simp;omega)|simp)|(with_reducible refine Ans.six ?_ ?hle _ _ _ _ _ _;case hle=>first|exact Nat.le_refl _|omega|(simp;omega)))) (zu OL).lt.2) (zu TO)).mono ?_;rintro e u3 ⟨y1,e1,hpo,rfl,o1,bb3⟩;have BB3:=zh bb3;have cD:=zh (show Below u2.heap.size u2 u3 from Below.trans (by repeat(first|with_reducible exact zu cA|with_reducible exact zu cB|with_reducible exact zu cC|with_reducible exact zu cD|with_reducible exact zu cE|with_reducible exact zu cF|with_reducible exact Below.refl _ _|with_reducible refine Below.drew ?_|(with_reducible refine Below.alloc ?_ ?hle _;case hle=>first|exact Nat.le_refl _|omega|(simp;omega)|simp)|(with_reducible refine Ans.six ?_ ?hle _ _ _ _ _ _;case hle=>first|exact Nat.le_refl _|omega|(simp;omega)))) (bb3.mono (by simp)));have cE:=zh ((zu cB).trans ((zu cD).mono (zu cB).size));have cF:=zh ((zu cC).trans ((zu cD).mono (zu cC).size));have sD:=(zu cD).size;(first|(have V0:=zh (Box.below (zu V0) bb3 (by have:=(zu V0).lt.2;first|exact this|(simp;omega))))|(have V0:=zh (Box.below (Box.made (w:=u2) (base:=w.heap.size) (g:=u2.heap.size) (.slice none 0 0) (.slice none 0 0) (.slice none 0 0) (.slice none 0 0) (.slice none 0 0) (.int .i64 0) (by first|omega|(simp;omega)) rfl) bb3 (by simp)))|skip);(first|(have k0:=(zu V0).c0;have k1:=(zu V0).c1;have k2:=(zu V0).c2;have k3:=(zu V0).c3;have k4:=(zu V0).c4;have k5:=(zu V0).c5;have v0:=(zu V0).free 0;have v1:=(zu V0).free 1;have v2:=(zu V0).free 2;have v3:=(zu V0).free 3;have v4:=(zu V0).free 4;have v5:=(zu V0).free 5)|skip);have A3:=zh ((zu A2).step (zu cD));have X3:=zh ((zu X2).below (zu cD) (zu X2).lt.2);have HPO:=zh hpo;have O1:=zh o1;clear bb3 hpo o1))
 have HPX:=zh (show IsPosted x.b (legsT (p0,p1,p2,p3,p4,p5,p6,p7)) y1.b e1 from by have h:=zu HPO;rw[zu HZ] at h;exact h)
 have sv:=(zu S3).v.lt
 have sv2:=(zu S2).v.lt
 refine to_wc (fun W=>SR w W x∧Box8 W w.heap.size w2.heap.size (p0,p1,p2,p3,p4,p5,p6,p7)∧Box W w.heap.size u3.heap.size (.slice (some ⟨y1.ga,0,none⟩) y1.b.ac.length y1.ca) (.slice (some ⟨y1.gi,0,none⟩) y1.b.ic.length y1.ci) (.slice (some ⟨y1.gb,0,none⟩) y1.b.bs.length y1.cb) (.slice (some ⟨y1.gl,0,none⟩) y1.b.ls.length y1.cl) (.slice (some ⟨y1.gt,0,none⟩) y1.b.ts.length y1.ct) (.int .i64 y1.b.lot)∧Ow W w3.heap.size y1) ?_ ?_
 ·exact⟨(zu A3).step (one_more u3 _),(zu X3).alloc _,Box.made _ _ _ _ _ _ (zu A3).b.size rfl,ow_alloc (zu O1) _⟩
 rintro W ⟨AS',XS',VS',OS'⟩
 have AS:=zh AS'
 have XS:=zh XS'
 have VS:=zh VS'
 have OS:=zh OS'
 clear AS' XS' VS' OS'
 have l6:w.heap.size+1≠u3.heap.size:=by omega
 have l7:w.heap.size≠u3.heap.size:=by omega
 have l8:w2.heap.size≠u3.heap.size:=by omega
 generalize hgo:u3.heap.size=go at VS l6 l7 l8⊢
 have l9:w3.heap.size≤go:=by omega
 clear hgo
 rotate_left
 have HPX:=zh (show IsPosted x.b (legsT (p0,p1,p2,p3,p4,p5,p6,p7)) y1.b e1 from by have h:=zu HPO;rw[zu HZ] at h;exact h)
 clear k0 k1 k2 k3 k4 k5 v0 v1 v2 v3 v4 v5
 have sv:=(zu S3).v.lt
 have sv2:=(zu S2).v.lt
 refine to_wc (fun W=>SR w W x∧Box8 W w.heap.size w2.heap.size (p0,p1,p2,p3,p4,p5,p6,p7)∧Box W w.heap.size u2.heap.size (.slice (some ⟨y1.ga,0,none⟩) y1.b.ac.length y1.ca) (.slice (some ⟨y1.gi,0,none⟩) y1.b.ic.length y1.ci) (.slice (some ⟨y1.gb,0,none⟩) y1.b.bs.length y1.cb) (.slice (some ⟨y1.gl,0,none⟩) y1.b.ls.length y1.cl) (.slice (some ⟨y1.gt,0,none⟩) y1.b.ts.length y1.ct) (.int .i64 y1.b.lot)∧Ow W w3.heap.size y1) ?_ ?_
 ·exact⟨SIssue.SR.grown (zu HR) (zu A3) (box_six (zu V0) _ _ _ _ _ _).2 (by omega),(zu X3).kept (box_six (zu V0) _ _ _ _ _ _).2 (fun e=>by injection e;omega),(box_six (zu V0) _ _ _ _ _ _).1,ow_six (zu O1) (off_box (zu O1) (zu V0)) _ _ _ _ _ _⟩
 rintro W ⟨AS',XS',VS',OS'⟩
 have AS:=zh AS'
 have XS:=zh XS'
 have VS:=zh VS'
 have OS:=zh OS'
 clear AS' XS' VS' OS'
 have l6:w.heap.size+1≠u2.heap.size:=by omega
 have l7:w.heap.size≠u2.heap.size:=by omega
 have l8:w2.heap.size≠u2.heap.size:=by omega
 generalize hgo:u2.heap.size=go at VS l6 l7 l8⊢
 have l9:w3.heap.size≤go:=by omega
 clear hgo
 rotate_left
 have HPX:=zh (show IsPosted x.b (legsT (p0,p1,p2,p3,p4,p5,p6,p7)) y1.b e1 from by have h:=zu HPO;rw[zu HZ] at h;exact h)
 clear k0 k1 k2 k3 k4 k5 v0 v1 v2 v3 v4 v5
 have sv:=(zu S3).v.lt
 have sv2:=(zu S2).v.lt
 refine to_wc (fun W=>SR w W x∧Box8 W w.heap.size w2.heap.size (p0,p1,p2,p3,p4,p5,p6,p7)∧Box W w.heap.size u1.heap.size (.slice (some ⟨y1.ga,0,none⟩) y1.b.ac.length y1.ca) (.slice (some ⟨y1.gi,0,none⟩) y1.b.ic.length y1.ci) (.slice (some ⟨y1.gb,0,none⟩) y1.b.bs.length y1.cb) (.slice (some ⟨y1.gl,0,none⟩) y1.b.ls.length y1.cl) (.slice (some ⟨y1.gt,0,none⟩) y1.b.ts.length y1.ct) (.int .i64 y1.b.lot)∧Ow W w3.heap.size y1) ?_ ?_
 ·exact⟨SIssue.SR.grown (zu HR) (zu A3) (box_six (zu V0) _ _ _ _ _ _).2 (by omega),(zu X3).kept (box_six (zu V0) _ _ _ _ _ _).2 (fun e=>by injection e;omega),(box_six (zu V0) _ _ _ _ _ _).1,ow_six (zu O1) (off_box (zu O1) (zu V0)) _ _ _ _ _ _⟩
 rintro W ⟨AS',XS',VS',OS'⟩
 have AS:=zh AS'
 have XS:=zh XS'
 have VS:=zh VS'
 have OS:=zh OS'
 clear AS' XS' VS' OS'
 have l6:w.heap.size+1≠u1.heap.size:=by omega
 have l7:w.heap.size≠u1.heap.size:=by omega
 have l8:w2.heap.size≠u1.heap.size:=by omega
 generalize hgo:u1.heap.size=go at VS l6 l7 l8⊢
 have l9:w3.heap.size≤go:=by omega
 clear hgo
 rotate_left
 have HPX:=zh (show IsPosted x.b (legsT (p0,p1,p2,p3,p4,p5,p6,p7)) y1.b e1 from by have h:=zu HPO;rw[zu HZ] at h;exact h)
 clear k0 k1 k2 k3 k4 k5 v0 v1 v2 v3 v4 v5
 have sv:=(zu S3).v.lt
 have sv2:=(zu S2).v.lt
 refine to_wc (fun W=>SR w W x∧Box8 W w.heap.size w2.heap.size (p0,p1,p2,p3,p4,p5,p6,p7)∧Box W w.heap.size w3.heap.size (.slice (some ⟨y1.ga,0,none⟩) y1.b.ac.length y1.ca) (.slice (some ⟨y1.gi,0,none⟩) y1.b.ic.length y1.ci) (.slice (some ⟨y1.gb,0,none⟩) y1.b.bs.length y1.cb) (.slice (some ⟨y1.gl,0,none⟩) y1.b.ls.length y1.cl) (.slice (some ⟨y1.gt,0,none⟩) y1.b.ts.length y1.ct) (.int .i64 y1.b.lot)∧Ow W w3.heap.size y1) ?_ ?_
 ·exact⟨SIssue.SR.grown (zu HR) (zu A3) (box_six (zu V0) _ _ _ _ _ _).2 (by omega),(zu X3).kept (box_six (zu V0) _ _ _ _ _ _).2 (fun e=>by injection e;omega),(box_six (zu V0) _ _ _ _ _ _).1,ow_six (zu O1) (off_box (zu O1) (zu V0)) _ _ _ _ _ _⟩
 rintro W ⟨AS',XS',VS',OS'⟩
 have AS:=zh AS'
 have XS:=zh XS'
 have VS:=zh VS'
 have OS:=zh OS'
 clear AS' XS' VS' OS'
 have l6:w.heap.size+1≠w3.heap.size:=by omega
 have l7:w.heap.size≠w3.heap.size:=by omega
 have l8:w2.heap.size≠w3.heap.size:=by omega
 generalize hgo:w3.heap.size=go at VS l6 l7 l8⊢
 have l9:w3.heap.size≤go:=by omega
 clear hgo
 rotate_left
 all_goals
  clear c0 c1 c2 c3 c4 c5 r0 r1 r2 r3 r4 r5 f0 f1 f2 f3 f4 f5 d0 d1 d2 d3 d4 d5 d6 d7
  by_cases z1:e1=0
  ·subst z1
   have LOT:=zh (show 0≤y1.b.lot∧y1.b.lot≤1000000000 from by rw[(posted_lot (zu HPX)).1];exact(zu LI).2.2.2.2.2)
   have SMY:=zh (posted_small (zu HPX) (zu SM))
   obtain⟨a0,a1,a2,a3,a4,a5,af0,af1,af2,af3,af4,af5⟩:=Box.all (zu VS)
   obtain⟨h0,h1,h2,h3,h4,h5,h6,h7,hf0,hf1,hf2,hf3,hf4,hf5,hf6,hf7⟩:=TBox.Box8.all (zu XS)
   go_wp2_with fail
   refine(SCarryP.sCarryP W w3.heap.size y1 p2 p1 p3 p4 fk p6 q3 (zu OS) (zu LOT) (zu SMY)).mono ?_
   rintro e w7 ⟨y2,t2,d2,ho,rfl,o2,bb⟩
   have S7:=zh ((zu AS).step bb)
   have V7:=zh ((zu VS).below bb (zu VS).lt.2)
   have X7:=zh ((zu XS).below bb (zu XS).lt.2)
   have O2:=zh o2
   have HO:=zh ho
   clear bb o2 ho
   clear a0 a1 a2 a3 a4 a5 af0 af1 af2 af3 af4 af5 h0 h1 h2 h3 h4 h5 h6 h7 hf0 hf1 hf2 hf3 hf4 hf5 hf6 hf7
   obtain⟨a0,a1,a2,a3,a4,a5,af0,af1,af2,af3,af4,af5⟩:=Box.all (zu V7)
   obtain⟨h0,h1,h2,h3,h4,h5,h6,h7,hf0,hf1,hf2,hf3,hf4,hf5,hf6,hf7⟩:=TBox.Box8.all (zu X7)
   have F2:=zh (off_box (zu O2) (zu V7))
   by_cases z2:d2=0
   ·subst z2
    have TS:=zh (show y2.b.ts=x.b.ts from(carried_ts (zu HO)).trans (posted_ts (zu HPX)))
    have tk:k<y2.b.ts.length:=by rw[zu TS];exact t
    have ny:y2.b.ts.length≤1048576:=by rw[zu TS];exact nt
    have IZ:=zh (show IsSettle x.b no fk (withS y2 k 2).b (IntKind.i64.wrap (p6-t2)) 0 from by
     refine .inr ⟨k,zu KK,.inr ?_⟩
     rw[zu HPP]
     obtain⟨b2,k2,c2,ht,⟨hne,_,hc⟩|⟨rfl,ho,rfl⟩⟩:=zu HO
     ·exact absurd hc.symm hne
     ·exact⟨zu HST,y1.b,0,zu HPX,.inr ⟨rfl,b2,_,0,ht,.inr ⟨rfl,y2.b,0,ho,.inr ⟨rfl,rfl,rfl,rfl⟩⟩⟩⟩)
    have e7:=((zu O2).ot.at k tk).2.2.2.2.2.2.2
    have e8:=(zu O2).ot.free (k*8+7)
    have gy:=(zu O2).ot.lt
    have m1:=(zu F2).2.2.2.2
    have m2:y2.gt≠w.heap.size+1:=by omega
    have m3:y2.gt≠w2.heap.size:=by have:=(zu T3).lt;omega
    go_wp2_with fail
    refine to_wc (fun W=>SR w W x∧Box8 W w.heap.size w2.heap.size (p0,p1,p2,p3,p4,p5,p6,p7)∧Box W w.heap.size go (.slice (some ⟨y2.ga,0,none⟩) y2.b.ac.length y2.ca) (.slice (some ⟨y2.gi,0,none⟩) y2.b.ic.length y2.ci) (.slice (some ⟨y2.gb,0,none⟩) y2.b.bs.length y2.cb) (.slice (some ⟨y2.gl,0,none⟩) y2.b.ls.length y2.cl) (.slice (some ⟨y2.gt,0,none⟩) y2.b.ts.length y2.ct) (.int .i64 y2.b.lot)∧Ow W w3.heap.size (withS y2 k 2)) ?_ ?_
    ·have G1:=(box_six (zu V7) (.slice (some ⟨y2.ga,0,none⟩) y2.b.ac.length y2.ca) (.slice (some ⟨y2.gi,0,none⟩) y2.b.ic.length y2.ci) (.slice (some ⟨y2.gb,0,none⟩) y2.b.bs.length y2.cb) (.slice (some ⟨y2.gl,0,none⟩) y2.b.ls.length y2.cl) (.slice (some ⟨y2.gt,0,none⟩) y2.b.ts.length y2.ct) (.int .i64 y2.b.lot))
     have OO:=ow_six (zu O2) (zu F2) (.slice (some ⟨y2.ga,0,none⟩) y2.b.ac.length y2.ca) (.slice (some ⟨y2.gi,0,none⟩) y2.b.ic.length y2.ci) (.slice (some ⟨y2.gb,0,none⟩) y2.b.bs.length y2.cb) (.slice (some ⟨y2.gl,0,none⟩) y2.b.ls.length y2.cl) (.slice (some ⟨y2.gt,0,none⟩) y2.b.ts.length y2.ct) (.int .i64 y2.b.lot)
     have G2:=state_grown OO k 2
     exact⟨SIssue.SR.grown (zu HR) (SIssue.SR.grown (zu HR) (zu S7) G1.2 (by omega)) G2 (by omega),((zu X7).kept G1.2 (fun e=>by injection e;omega)).kept G2 (fun e=>by injection e;omega),G1.1.kept G2 (fun e=>by injection e;omega),ow_state OO k 2⟩
    rintro W9 ⟨AS',XS',VS',OS'⟩
    have A9:=zh AS'
    have X9:=zh XS'
    have V9:=zh VS'
    have O9:=zh OS'
    clear AS' XS' VS' OS' e7 e8
    clear a0 a1 a2 a3 a4 a5 af0 af1 af2 af3 af4 af5 h0 h1 h2 h3 h4 h5 h6 h7 hf0 hf1 hf2 hf3 hf4 hf5 hf6 hf7
    have KW:=And.intro (zu V9).c0 (And.intro (zu V9).c1 (And.intro (zu V9).c2 (And.intro (zu V9).c3 (And.intro (zu V9).c4 (And.intro (zu V9).c5 (zu X9).c6)))))
    obtain⟨s0,s1,s2,s3,s4,s5,sf0,sf1,sf2,sf3,sf4,sf5⟩:=Box.all ((zu A9).v)
    have U9:=zh (box_six (zu A9).v (.slice (some ⟨y2.ga,0,none⟩) y2.b.ac.length y2.ca) (.slice (some ⟨y2.gi,0,none⟩) y2.b.ic.length y2.ci) (.slice (some ⟨y2.gb,0,none⟩) y2.b.bs.length y2.cb) (.slice (some ⟨y2.gl,0,none⟩) y2.b.ls.length y2.cl) (.slice (some ⟨y2.gt,0,none⟩) y2.b.ts.length y2.ct) (.int .i64 y2.b.lot))
    have VU:=zh (Box.below ((zu V9).kept (zu U9).2 (fun e=>by injection e;omega)) (Below.refl _ _).drew (by simpa using(zu V9).lt.2))
    have XU:=zh (Box8.below ((zu X9).kept (zu U9).2 (fun e=>by injection e;omega)) (Below.refl _ _).drew (by simpa using(zu X9).lt.2))
    have VD:=zh ((zu V9).below (Below.refl _ _).drew (zu V9).lt.2)
    have XD:=zh ((zu X9).below (Below.refl _ _).drew (zu X9).lt.2)
    have K9:=And.intro (zu VD).c0 (And.intro (zu VD).c1 (And.intro (zu VD).c2 (And.intro (zu VD).c3 (And.intro (zu VD).c4 (And.intro (zu VD).c5 (zu XD).c6)))))
    have K10:=And.intro (zu VU).c0 (And.intro (zu VU).c1 (And.intro (zu VU).c2 (And.intro (zu VU).c3 (And.intro (zu VU).c4 (And.intro (zu VU).c5 (zu XU).c6)))))
    obtain⟨r0,r1,r2,r3,r4,r5,f0,f1,f2,f3,f4,f5⟩:=Box.all ((zu A9).v)
    have F9:=zh (off_box (zu O9) (zu A9).v)
    go_region_held3 (fun w'=>w'.cell? ⟨go,0,none⟩=some (.slice (some ⟨y2.ga,0,none⟩) y2.b.ac.length y2.ca)∧w'.cell? ⟨go,1,none⟩=some (.slice (some ⟨y2.gi,0,none⟩) y2.b.ic.length y2.ci)∧w'.cell? ⟨go,2,none⟩=some (.slice (some ⟨y2.gb,0,none⟩) y2.b.bs.length y2.cb)∧w'.cell? ⟨go,3,none⟩=some (.slice (some ⟨y2.gl,0,none⟩) y2.b.ls.length y2.cl)∧w'.cell? ⟨go,4,none⟩=some (.slice (some ⟨y2.gt,0,none⟩) y2.b.ts.length y2.ct)∧w'.cell? ⟨go,5,none⟩=some (.int .i64 y2.b.lot)∧w'.cell? ⟨w2.heap.size,6,none⟩=some (.int .i64 p6)) (first|with_reducible exact KW|with_reducible exact K9|with_reducible exact K10) (fail)
    go_wp2
    refine to_wb (fun W=>Box W w.heap.size (w.heap.size+1) (.slice (some ⟨y2.ga,0,none⟩) y2.b.ac.length y2.ca) (.slice (some ⟨y2.gi,0,none⟩) y2.b.ic.length y2.ci) (.slice (some ⟨y2.gb,0,none⟩) y2.b.bs.length y2.cb) (.slice (some ⟨y2.gl,0,none⟩) y2.b.ls.length y2.cl) (.slice (some ⟨y2.gt,0,none⟩) y2.b.ts.length y2.ct) (.int .i64 y2.b.lot)∧Below w.heap.size w W∧Ow W w.heap.size (withS y2 k 2)) ?_ ?_
    ·exact⟨Box.below (zu U9).1 (Below.refl _ _).drew (by have:=(zu A9).v.lt.2;simpa using this),(six (zu A9).b (by omega) _ _ _ _ _ _).drew,(Ow.below (ow_six (zu O9) (zu F9) _ _ _ _ _ _) (Below.refl _ _).drew (Nat.le_refl _)).rebase (zu S3).b.size⟩
    rintro W ⟨X,B,OW⟩
    have g0:=X.c0
    have g1:=X.c1
    have g2:=X.c2
    have g3:=X.c3
    have g4:=X.c4
    have g5:=X.c5
    exact bodyPost_ret (v:= .tuple #[.agg #[.slice (some ⟨y2.ga,0,none⟩) y2.b.ac.length y2.ca,.slice (some ⟨y2.gi,0,none⟩) y2.b.ic.length y2.ci,.slice (some ⟨y2.gb,0,none⟩) y2.b.bs.length y2.cb,.slice (some ⟨y2.gl,0,none⟩) y2.b.ls.length y2.cl,.slice (some ⟨y2.gt,0,none⟩) y2.b.ts.length y2.ct,.int .i64 y2.b.lot],.int .i64 (IntKind.i64.wrap (p6-t2)),.int .i64 0]) (by simp[results,Tryz.results54,go_sem,g0,g1,g2,g3,g4,g5]) rfl (.inr ⟨zu TT,withS y2 k 2,_,0,zu IZ,by simp[set_len],OW,B⟩)
   ·have z2c:(d2 !=0)=true:=ne_true z2
    have IZ2:=zh (show IsSettle x.b no fk x.b 0 d2 from by
     refine .inr ⟨k,zu KK,.inr ?_⟩
     rw[zu HPP]
     obtain⟨b2,k2,c2,ht,⟨hne,_,rfl⟩|⟨rfl,ho,rfl⟩⟩:=zu HO
     ·exact⟨zu HST,y1.b,0,zu HPX,.inr ⟨rfl,b2,k2,_,ht,.inl ⟨hne,rfl,rfl,rfl⟩⟩⟩
     ·exact⟨zu HST,y1.b,0,zu HPX,.inr ⟨rfl,b2,_,0,ht,.inr ⟨rfl,y2.b,d2,ho,.inl ⟨z2,rfl,rfl,rfl⟩⟩⟩⟩)
    clear z2
    have TG:=zh (SIssue.SR.grown (zu HR) (zu S7) (box_six (zu V7) (.slice (some ⟨y2.ga,0,none⟩) y2.b.ac.length y2.ca) (.slice (some ⟨y2.gi,0,none⟩) y2.b.ic.length y2.ci) (.slice (some ⟨y2.gb,0,none⟩) y2.b.bs.length y2.cb) (.slice (some ⟨y2.gl,0,none⟩) y2.b.ls.length y2.cl) (.slice (some ⟨y2.gt,0,none⟩) y2.b.ts.length y2.ct) (.int .i64 y2.b.lot)).2 (by omega))
    obtain⟨c0,c1,c2,c3,c4,c5⟩:=(zu S7).c
    obtain⟨r0,r1,r2,r3,r4,r5,f0,f1,f2,f3,f4,f5⟩:=Box.all ((zu S7).v)
    go_wp2_with fail
    refine(SCopy.sCopy _ x (zu TG).r).mono ?_
    rintro e w8 ⟨z,hz,rfl,oz,bb⟩
    have S8:=zh ((zu TG).step bb)
    have OZ:=zh (oz.rebase (zu TG).b.size)
    have LZ:=zh (ow_lo oz)
    have zl:=(zu TG).v.lt.2
    have IZ:=zh (show IsSettle x.b no fk z.b 0 d2 from by rw[hz];exact(zu IZ2))
    clear bb oz hz
    clear c0 c1 c2 c3 c4 c5 r0 r1 r2 r3 r4 r5 f0 f1 f2 f3 f4 f5
    obtain⟨c0,c1,c2,c3,c4,c5⟩:=(zu S8).c
    obtain⟨r0,r1,r2,r3,r4,r5,f0,f1,f2,f3,f4,f5⟩:=Box.all ((zu S8).v)
    go_wp2
    refine bodyPost_ret (v:= .tuple #[.agg #[.slice (some ⟨z.ga,0,none⟩) z.b.ac.length z.ca,.slice (some ⟨z.gi,0,none⟩) z.b.ic.length z.ci,.slice (some ⟨z.gb,0,none⟩) z.b.bs.length z.cb,.slice (some ⟨z.gl,0,none⟩) z.b.ls.length z.cl,.slice (some ⟨z.gt,0,none⟩) z.b.ts.length z.ct,.int .i64 z.b.lot],.int .i64 0,.int .i64 d2]) (by simp[results,Tryz.results54,go_sem,r0,r1,r2,r3,r4,r5]) rfl (.inr ⟨zu TT,z,0,d2,zu IZ,rfl,?_,?_⟩)
    ·exact ow_six (zu OZ) (off_lo (zu LZ) zl) _ _ _ _ _ _
    ·exact six (zu S8).b (by omega) _ _ _ _ _ _
  ·have z1b:(e1==0)=false:=SIssue.eq_false z1
   have z1c:(e1 !=0)=true:=ne_true z1
   have IZ1:=zh (show IsSettle x.b no fk x.b 0 e1 from by
    refine .inr ⟨k,zu KK,.inr ?_⟩
    rw[zu HPP]
    exact⟨zu HST,y1.b,e1,zu HPX,.inl ⟨z1,rfl,rfl,rfl⟩⟩)
   clear z1
   obtain⟨c0,c1,c2,c3,c4,c5⟩:=(zu AS).c
   obtain⟨r0,r1,r2,r3,r4,r5,f0,f1,f2,f3,f4,f5⟩:=Box.all ((zu AS).v)
   go_wp2_with fail
   refine(SCopy.sCopy _ x (zu AS).r).mono ?_
   rintro e w8 ⟨z,hz,rfl,oz,bb⟩
   have S8:=zh ((zu AS).step bb)
   have OZ:=zh (oz.rebase (zu AS).b.size)
   have LZ:=zh (ow_lo oz)
   have zl:=(zu AS).v.lt.2
   have IZ:=zh (show IsSettle x.b no fk z.b 0 e1 from by rw[hz];exact(zu IZ1))
   clear bb oz hz
   clear c0 c1 c2 c3 c4 c5 r0 r1 r2 r3 r4 r5 f0 f1 f2 f3 f4 f5
   obtain⟨c0,c1,c2,c3,c4,c5⟩:=(zu S8).c
   obtain⟨r0,r1,r2,r3,r4,r5,f0,f1,f2,f3,f4,f5⟩:=Box.all ((zu S8).v)
   go_wp2
   refine bodyPost_ret (v:= .tuple #[.agg #[.slice (some ⟨z.ga,0,none⟩) z.b.ac.length z.ca,.slice (some ⟨z.gi,0,none⟩) z.b.ic.length z.ci,.slice (some ⟨z.gb,0,none⟩) z.b.bs.length z.cb,.slice (some ⟨z.gl,0,none⟩) z.b.ls.length z.cl,.slice (some ⟨z.gt,0,none⟩) z.b.ts.length z.ct,.int .i64 z.b.lot],.int .i64 0,.int .i64 e1]) (by simp[results,Tryz.results54,go_sem,r0,r1,r2,r3,r4,r5]) rfl (.inr ⟨zu TT,z,0,e1,zu IZ,rfl,?_,?_⟩)
   ·exact ow_six (zu OZ) (off_lo (zu LZ) zl) _ _ _ _ _ _
   ·exact six (zu S8).b (by omega) _ _ _ _ _ _
end SSettle
namespace ICmdF
open BMem Bks ILists BHelp Ans ICopied ICmdB ICmdW
open SIssue (off_box)
open SMove (AnsM)
def Fin(told:Prop)(b:Bk)(P:Bk→Int→Int→Prop)(base:Nat)(a0 a1 a2 a3 a4:Option Addr)(n0 n1 n2 n3 n4 k0 k1 k2 k3 k4:Nat)(l:Int)(t c:Int)(W:World):Prop:=
 (¬told∧(a0=none∧n0=0∧k0=0∧a1=none∧n1=0∧k1=0∧a2=none∧n2=0∧k2=0∧a3=none∧n3=0∧k3=0∧a4=none∧n4=0∧k4=0∧l=0)∧t=0∧c=1)∨
 (told∧∃(z:Bx) (b':Bk) (t':Int),P b' t' c∧(a0=some ⟨z.ga,0,none⟩∧n0=z.b.ac.length∧k0=z.ca∧a1=some ⟨z.gi,0,none⟩∧n1=z.b.ic.length∧k1=z.ci∧a2=some ⟨z.gb,0,none⟩∧n2=z.b.bs.length∧k2=z.cb∧a3=some ⟨z.gl,0,none⟩∧n3=z.b.ls.length∧k3=z.cl∧a4=some ⟨z.gt,0,none⟩∧n4=z.b.ts.length∧k4=z.ct∧l=z.b.lot)∧((c=0∧z.b=b'∧t=t')∨(c≠0∧z.b=b∧t=0))∧Ow W base z)
section
variable {told:Prop} {b:Bk} {P:Bk→Int→Int→Prop} {base:Nat} {a0 a1 a2 a3 a4:Option Addr} {n0 n1 n2 n3 n4 k0 k1 k2 k3 k4:Nat} {l:Int} {t c:Int} {W W':World}
theorem Fin.map(h:Fin told b P base a0 a1 a2 a3 a4 n0 n1 n2 n3 n4 k0 k1 k2 k3 k4 l t c W)(f:∀z,Ow W base z→Ow W' base z):Fin told b P base a0 a1 a2 a3 a4 n0 n1 n2 n3 n4 k0 k1 k2 k3 k4 l t c W':=by
 rcases h with h|⟨h,z,b',t',h1,h2,h3,h4⟩
 ·exact .inl h
 ·exact .inr ⟨h,z,b',t',h1,h2,h3,f z h4⟩
theorem Fin.rebase{base':Nat}(h:Fin told b P base a0 a1 a2 a3 a4 n0 n1 n2 n3 n4 k0 k1 k2 k3 k4 l t c W)(hb:base'≤base):Fin told b P base' a0 a1 a2 a3 a4 n0 n1 n2 n3 n4 k0 k1 k2 k3 k4 l t c W:=by
 rcases h with h|⟨h,z,b',t',h1,h2,h3,h4⟩
 ·exact .inl h
 ·exact .inr ⟨h,z,b',t',h1,h2,h3,h4.rebase hb⟩
theorem Fin.alloc(h:Fin told b P base a0 a1 a2 a3 a4 n0 n1 n2 n3 n4 k0 k1 k2 k3 k4 l t c W)(o:Obj):Fin told b P base a0 a1 a2 a3 a4 n0 n1 n2 n3 n4 k0 k1 k2 k3 k4 l t c (W.alloc o):=h.map fun z O=>ow_alloc O o
theorem Fin.drew(h:Fin told b P base a0 a1 a2 a3 a4 n0 n1 n2 n3 n4 k0 k1 k2 k3 k4 l t c W):Fin told b P base a0 a1 a2 a3 a4 n0 n1 n2 n3 n4 k0 k1 k2 k3 k4 l t c W.drew:=h.map fun z O=>ow_drew O
theorem Fin.six{base' g:Nat}{v0 v1 v2 v3 v4 v5:Value}(h:Fin told b P base a0 a1 a2 a3 a4 n0 n1 n2 n3 n4 k0 k1 k2 k3 k4 l t c W)(B:Box W base' g v0 v1 v2 v3 v4 v5)(u0 u1 u2 u3 u4 u5:Value):Fin told b P base a0 a1 a2 a3 a4 n0 n1 n2 n3 n4 k0 k1 k2 k3 k4 l t c ((((((W.setCell ⟨g,0,none⟩ u0).setCell ⟨g,1,none⟩ u1).setCell ⟨g,2,none⟩ u2).setCell ⟨g,3,none⟩ u3).setCell ⟨g,4,none⟩ u4).setCell ⟨g,5,none⟩ u5):=
 h.map fun z O=>ow_six O (off_box O B) _ _ _ _ _ _
end
end ICmdF
namespace IPostB
open BMem Bks ILists BHelp Ans ICopied ICmdB IHave SBk
open IBalsFit (one_more all_one)
open ITrade (at_new)
open Lots (Says says_of NoOk)
open Bals (T3)
open Tup5 (T5)
theorem iPostT(u:World)(z:Bx)(base g gL capL:Nat)(ls:List T3)(ok:Lists z.b)(sm:Small z.b)(V:Var u base g z)(O:Ow u (base+4) z)(hg:g<base+4)(hl:ls.length≤1048576)(hgL:gL<u.heap.size)(hL:Triples.At3 u gL ls)(hf:Bals.Formed ls)(he:Bals.Even ls):
  Calls Tryz.prog 210 #[.pointer (some ⟨g,0,none⟩),.slice (some ⟨gL,0,none⟩) ls.length capL] u fun e u'=>∃(y:Bx) (c:Int),IsPosted z.b ls y.b c∧e= .returned (.int .i64 c)∧Var u' base g y∧Ow u' (base+4) y∧u.grownBy u' (some g)∧y.gt=z.gt∧y.ct=z.ct:=by
 have PC:=zh (fun qs c (hp:Bals.IsPost z.b.bs ls (shortL z.b.ac) qs c)=>post_code hp ok.2.2.1 hf he (Nat.le_trans (short_len _) ok.1.1))
 have xl:(shortL z.b.ac).length≤1048576:=Nat.le_trans (short_len _) sm.1
 have na:=sm.1
 have nb:=sm.2.2.1
 have L0:=zh hL
 have S0:=zh (DW.start V O sm)
 have S1:=zh ((zu S0).step (one_more u (.cells #[] 3)))
 have O1:=zh (Shorts.lit0 u u.heap.size (Nat.le_refl _) rfl)
 have hb0:=O.oa.lt
 have hgu:=Box.lt V
 have d0:=(zu S1).v.c0
 have d2:=(zu S1).v.c2
 have z1:u.heap.size<(u.alloc (.cells #[] 3)).heap.size:=by simp
 clear ok V O hf he hL sm
 go_enter Tryz.func210,Tryz.ntmps210
 go_wp2
 generalize u.alloc (.cells #[] 3)=u1 at *
 clear d0 d2
 go_loopw [5,16] (fun l j wr=>∃(p:List Int) (g1 c1 k:Nat),l= .slice (some ⟨g1,0,none⟩) p.length c1∧j= .int .i64 k∧k≤z.b.ac.length∧p.length≤k∧Hid (p=shortL (z.b.ac.take k))∧Hid (Ints.Own wr u.heap.size g1 p.length c1 p)∧Hid (DW u wr z base g)) (fun _ j _=>z.b.ac.length-(intOf j).toNat)
 case atStart=>exact⟨[],u.heap.size,0,0,rfl,rfl,by omega,by simp,zh rfl,O1,S1⟩
 case round=>
  clear O1 S1
  obtain⟨p,g1,c1,k,rfl,rfl,hk,pl,HP,H1,S2⟩:=hrel
  have bs:=(zu S2).b.size
  by_cases t:k<z.b.ac.length
  ·obtain⟨e0,e1⟩:=(zu S2).r.ra k t
   have NP:=zh (short_next (ps:=z.b.ac) (k:=k) t)
   rw[←zu HP] at NP
   obtain⟨no,hno⟩:∃no,Hid ((z.b.ac.getD k (0,0)).1=no):=⟨_,rfl⟩
   obtain⟨kd,hkd⟩:∃kd,Hid ((z.b.ac.getD k (0,0)).2=kd):=⟨_,rfl⟩
   rw[zu hno] at e0
   rw[zu hkd] at e1
   have NQ:=zh (show shortL (z.b.ac.take (k+1))=p++(if kd=1 then[] else[no]) from by
    first|(rw[zu NP,←zu hno,←zu hkd];done)|(rw[zu NP,←zu hno,←zu hkd];rfl))
   clear NP hno hkd
   have S3:=zh ((zu S2).step (one_more wr (.cells #[.int .i64 no,.int .i64 kd] 111)))
   have H3:=zh (Shorts.own_alloc (zu H1) (.cells #[.int .i64 no,.int .i64 kd] 111))
   by_cases own:kd=1
   ·have NP1:Hid (shortL (z.b.ac.take (k+1))=p):=zh (by rw[zu NQ,if_pos own,List.append_nil])
    clear NQ
    subst own
    go_wp2
    go_roundw
    case rel=>exact⟨p,g1,c1,k+1,rfl,by go_num,by omega,by omega,zh (zu NP1).symm,H3,S3⟩
    case measure=>simp[intOf];omega
   ·have NP1:Hid (shortL (z.b.ac.take (k+1))=p++[no]):=zh (by rw[zu NQ,if_neg own])
    have ob:(kd !=1)=true:=by simpa using own
    clear NQ own
    go_wp2_with (first|(at_builtin;refine Shorts.wp_appI _ rfl _ _ rfl u.heap.size g1 p.length c1 p (wr.heap.size+1) no rfl rfl (Shorts.own_alloc (zu H3) _) (by simp) (by omega) (by simp;omega) ?_)|go_in)
    intro g5 c5 w5 o5 gr5 loc5
    have O5:=zh o5
    have S5:=zh (show DW u w5 z base g from by
     have l:=(zu H1).lt
     have s4:=(zu S3).step (one_more (wr.alloc (.cells #[.int .i64 no,.int .i64 kd] 111)) (.cells #[.int .i64 no] 3))
     have b5:Below u.heap.size u w5:=s4.b.grown gr5 (by simp;omega) (fun j hj=>by cases hj;exact l.1)
     have lz:=ow_up (zu S0).o
     exact⟨(zu S0).r.below b5,Box.below (zu S0).v b5 hgu.2,(zu S0).o.below b5 (Nat.le_refl _),b5⟩)
    clear o5 gr5 loc5
    go_wp2
    go_roundw
    case rel=>exact⟨p++[no],g5,c5,k+1,by rw[show(p++[no]).length=p.length+1 by simp],by go_num,by omega,by simp;omega,zh (zu NP1).symm,zh (by rw[show(p++[no]).length=p.length+1 by simp];exact zu O5),S5⟩
    case measure=>simp[intOf];omega
  ·obtain rfl:k=z.b.ac.length:=by omega
   have EP:=zh (show p=shortL z.b.ac by rw[zu HP,List.take_of_length_le (by omega)])
   have pl2:p.length≤1048576:=by omega
   clear HP
   have d2:=(zu S2).v.c2
   go_wp2_with fail
   refine(Post2.iBalsPost wr z.gb _ z.cb gL _ capL g1 _ c1 z.b.bs ls p rfl rfl rfl nb hl pl2 (zu S2).r.lb (Nat.lt_of_lt_of_le hgL (zu S2).b.size) (zu H1).lt.2 (zu S2).r.rb ((zu L0).below (zu S2).b hgL) (zu H1).at).mono ?_
   rintro e w3 ⟨qs,pc,g5,k5,hp,rfl,o5,bb⟩
   rw[zu EP] at hp
   have S3:=zh ((zu S2).step bb)
   have HP:=zh hp
   have O5:=zh o5
   have l5:=o5.lt
   clear bb hp o5 d2
   have e2:=(zu S3).v.c2
   have f2:=(zu S3).v.free 2
   rcases(zu PC) _ _ (zu HP) with rfl|rfl|rfl|rfl
   ·have OY:=zh (ow_withB (zu S3).o ((zu O5).rebase (base':=base+4) (by omega)))
    have UZ:=zh (ow_up (zu S0).o)
    go_wp2
    go_ret
    refine⟨withB z g5 k5 qs,0,⟨qs,0,zu HP,.inl ⟨rfl,rfl,rfl⟩⟩,rfl,(Box.set2 (zu S3).v _).1,?_,Pairs.grown_trans (zu S3).grown (Box.set2 (zu S3).v _).2,rfl,rfl⟩
    refine ow_set (zu OY) ?_ 2 _
    have LO:=ow_lo (zu S0).o
    unfold Lo at LO
    unfold Off
    simp
    omega
   ·go_wp2
    go_ret
    exact⟨z,5,⟨qs,3,zu HP,.inr (.inl ⟨rfl,rfl,rfl⟩)⟩,rfl,(zu S3).v,(zu S3).o,(zu S3).grown,rfl,rfl⟩
   ·go_wp2
    go_ret
    exact⟨z,8,⟨qs,4,zu HP,.inr (.inr (.inl ⟨rfl,rfl,rfl⟩))⟩,rfl,(zu S3).v,(zu S3).o,(zu S3).grown,rfl,rfl⟩
   ·go_wp2
    go_ret
    exact⟨z,7,⟨qs,5,zu HP,.inr (.inr (.inr ⟨rfl,rfl,rfl⟩))⟩,rfl,(zu S3).v,(zu S3).o,(zu S3).grown,rfl,rfl⟩
end IPostB
namespace ITakeBk
open BMem Bks ILists BHelp Ans ICopied ICmdB IHave SBk
open IBalsFit (one_more all_one)
open Lots (Says says_of NoOk)
open Bals (T3)
open Tup5 (T5)
open Concat5 (OwnV)
open ILotsFit (below_of_drew)
structure OwL(w:World)(base:Nat)(x:Bx)(v:Value):Prop where
 oa:Pairs.Own 111 w base x.ga x.b.ac.length x.ca x.b.ac
 oi:Pairs.Own 114 w base x.gi x.b.ic.length x.ci x.b.ic
 ob:Triples.Own3 70 w base x.gb x.b.bs.length x.cb x.b.bs
 ol:OwnV 120 w base v x.b.ls
 ot:Tup8.Own8 64 w base x.gt x.b.ts.length x.ct x.b.ts
theorem OwL.of{w:World}{base:Nat}{x:Bx}(h:Ow w base x):OwL w base x (.slice (some ⟨x.gl,0,none⟩) x.b.ls.length x.cl):=⟨h.oa,h.oi,h.ob,Concat5.OwnV.of h.ol,h.ot⟩
theorem OwL.below{w w':World}{base B:Nat}{x:Bx}{v:Value}(h:OwL w base x v)(k:Below B w w')(hB:w.heap.size≤B):OwL w' base x v:=
 ⟨h.oa.below k (by have:=h.oa.lt;omega),h.oi.below k (by have:=h.oi.lt;omega),h.ob.below k (by have:=h.ob.lt;omega),h.ol.below k (fun g hg=>by have:=h.ol.lt g hg;omega),h.ot.below k (by have:=h.ot.lt;omega)⟩
def VarL(w:World)(base g:Nat)(x:Bx)(v:Value):Prop:=Box w base g (.slice (some ⟨x.ga,0,none⟩) x.b.ac.length x.ca) (.slice (some ⟨x.gi,0,none⟩) x.b.ic.length x.ci) (.slice (some ⟨x.gb,0,none⟩) x.b.bs.length x.cb) v (.slice (some ⟨x.gt,0,none⟩) x.b.ts.length x.ct) (.int .i64 x.b.lot)
theorem VarL.any{w:World}{base g:Nat}{x:Bx}{ao:Option Addr}{n k:Nat}(h:VarL w base g x (.slice ao n k)):AnyBox w base g:=⟨_,_,_,_,_,_,_,_,_,_,_,_,_,_,_,_,h⟩
theorem below_grown{u W:World}{g:Nat}(h:Below u.heap.size u W):u.grownBy W (some g):=⟨h.os,h.tape,h.output,h.size,fun j hj _=>h.block j hj⟩
theorem taken_cases(bad short:Bool):(bad=false∧short=false)∨(STake.takeD bad short≠0∧¬(bad=false∧short=false)):=by
 cases bad<;>cases short<;>simp[STake.takeD]
theorem iTakeBkT(u:World)(z:Bx)(base g:Nat)(a i q way:Int)(sm:Small z.b)(V:Var u base g z)(O:Ow u (base+4) z)(hg:g<base+4):
  Calls Tryz.prog 211 #[.pointer (some ⟨g,0,none⟩),.int .i64 a,.int .i64 i,.int .i64 q,.int .i64 way] u fun e u'=>∃(b2:Bk) (k2 c2:Int),IsTake z.b a i q way b2 k2 c2∧e= .returned (.tuple #[.int .i64 k2,.int .i64 c2])∧((c2=0∧∃(y:Bx) (v:Value),y.b=b2∧VarL u' base g y v∧OwL u' (base+4) y v∧y.gt=z.gt∧y.ct=z.ct)∨(c2≠0∧AnyBox u' base g))∧u.grownBy u' (some g):=by
 obtain⟨bad,hbad⟩:=says_of (¬STake.TakeOk z.b.ls q way)
 obtain⟨short,hshort⟩:=says_of (Takes.sumQ (Lots.ownL z.b.ls a i)<q)
 have HB:=zh hbad
 have HS:=zh hshort
 have S0:=zh (DW.start V O sm)
 have d3:=Box.c3 V
 have nl:=sm.2.2.2.1
 have hgu:=Box.lt V
 have hc:=(own_cap O.ol).1
 clear hbad hshort V O sm
 go_enter Tryz.func211,Tryz.ntmps211
 go_wp2_with fail
 refine(ITake.iTake u z.gl _ z.cl z.b.ls (takenL z.b a i q way) a i q way bad short rfl nl hc (zu S0).r.ll (zu S0).r.rl (zu HB) (zu HS) (fun _ _=>rfl)).mono ?_
 rintro e w2 ⟨v,rfl,ov,bb⟩
 have S2:=zh ((zu S0).step bb)
 have OV:=zh ov
 have f3:=(zu S2).v.free 3
 have e3:=(zu S2).v.c3
 have sz:=bb.size
 clear bb ov d3
 rcases taken_cases bad short with⟨rfl,rfl⟩|⟨hne,hno⟩
 ·have CT:=zh (show CanTake z.b a i q way from by
   have hb:=Classical.byContradiction (zu HB).no
   exact⟨hb.1,hb.2.1,hb.2.2,(zu HS).no⟩)
  rw[show STake.takeK (Takes.takeC way (Lots.ownL z.b.ls a i) q) false false=Takes.takeC way (Lots.ownL z.b.ls a i) q from rfl,show STake.takeD false false=0 from rfl]
  rw[show STake.takeA z.b.ls (takenL z.b a i q way) false false=takenL z.b a i q way from rfl] at OV
  have BL:=zh (show ∀g',v.ownBlock=some g'→u.heap.size≤g' from fun g' h=>((zu OV).lt g' h).1)
  obtain⟨ao,n,k,rfl⟩:∃ao n k,v= .slice ao n k:=by
   rcases(zu OV).cases with⟨rfl,_⟩|⟨g',c',rfl,_⟩
   ·exact⟨_,_,_,rfl⟩
   ·exact⟨_,_,_,rfl⟩
  go_wp2
  go_ret2
  have lo:=(ow_lo (zu S2).o)
  have O3:=(zu S2).o
  have G:=(Box.set3 (zu S2).v (.slice ao n k)).2
  refine⟨{z.b with ls:=takenL z.b a i q way},Takes.takeC way (Lots.ownL z.b.ls a i) q,0,.inl ⟨zu CT,rfl,rfl,rfl⟩,rfl,.inl ⟨rfl,{z with b:={z.b with ls:=takenL z.b a i q way}},.slice ao n k,rfl,(Box.set3 (zu S2).v _).1,?_,rfl,rfl⟩,Pairs.grown_trans (zu S2).grown G⟩
  have hne:∀g',g≤g'→g'≤g→False→False:=fun _ _ _ h=>h
  refine⟨O3.oa.kept G ?_,O3.oi.kept G ?_,O3.ob.kept G ?_,?_,O3.ot.kept G ?_⟩
  ·unfold Lo at lo;simp;omega
  ·unfold Lo at lo;simp;omega
  ·unfold Lo at lo;simp;omega
  ·refine((zu OV).rebase ?_).kept G ?_
   ·have:=O3.oa.lt;have:=(zu S0).o.oa.lt;omega
   ·intro g' h e
    have:=(zu BL) g' h
    cases e
    omega
  ·unfold Lo at lo;simp;omega
 ·have CT:=zh (show ¬CanTake z.b a i q way from fun h=>hno ⟨(zu HB).not (fun r=>r ⟨h.1,h.2.1,h.2.2.1⟩),(zu HS).not h.2.2.2⟩)
  obtain⟨c,hc'⟩:∃c,Hid (STake.takeD bad short=c):=⟨_,rfl⟩
  have cb:(c !=0)=true:=by rw[←zu hc'];simpa using hne
  rw[zu hc']
  clear hne hno
  go_wp2
  go_ret2
  exact⟨z.b,0,5,.inr ⟨zu CT,rfl,rfl,rfl⟩,rfl,.inr ⟨by omega,Var.any (zu S2).v⟩,(zu S2).grown⟩
end ITakeBk
namespace IOpenBk
open BMem Bks ILists BHelp Ans ICopied ICmdB IHave SBk ITakeBk
open IBalsFit (one_more all_one)
open Lots (Says says_of NoOk)
open Bals (T3)
open Tup5 (T5)
open Concat5 (OwnV)
open ILotsFit (below_of_drew)
theorem iOpenBkT(u:World)(z:Bx)(v:Value)(base g:Nat)(a i q cost:Int)(hlot:0≤z.b.lot∧z.b.lot≤1000000000)(nl:z.b.ls.length≤1048576)(V:VarL u base g z v)(O:OwL u (base+4) z v)(hg:g<base+4):
  Calls Tryz.prog 212 #[.pointer (some ⟨g,0,none⟩),.int .i64 a,.int .i64 i,.int .i64 q,.int .i64 cost] u fun e u'=>∃(b':Bk) (c:Int),IsOpen z.b a i q cost b' c∧e= .returned (.int .i64 c)∧((c=0∧∃y:Bx,y.b=b'∧Var u' base g y∧Ow u' (base+4) y∧y.gt=z.gt∧y.ct=z.ct)∨(c≠0∧AnyBox u' base g))∧u.grownBy u' (some g):=by
 obtain⟨ao,n,k,rfl⟩:∃ao n k,v= .slice ao n k:=by
  rcases O.ol.cases with⟨rfl,_⟩|⟨g',c',rfl,_⟩
  ·exact⟨_,_,_,rfl⟩
  ·exact⟨_,_,_,rfl⟩
 obtain⟨ok,hok⟩:=says_of (Lots.Right z.b.ls)
 obtain⟨okl,hkl⟩:=says_of (Lots.One (opened z.b a i q cost))
 obtain⟨okn,hkn⟩:=says_of (Lots.Right (Lots.mergeL (z.b.ls.length+1) z.b.ls [opened z.b a i q cost]))
 have HO:=zh hok
 have HL:=zh hkl
 have HN:=zh hkn
 have V0:=zh V
 have O0:=zh O
 have d3:=Box.c3 V
 have d5:=Box.c5 V
 have hgu:=Box.lt V
 obtain⟨l0,l1⟩:=hlot
 clear hok hkl hkn V O
 by_cases full:z.b.lot=1000000000
 ·have fb:(z.b.lot==1000000000)=true:=by simp[full]
  have HF:=zh full
  clear full
  go_enter Tryz.func212,Tryz.ntmps212
  go_wp2
  go_ret
  exact⟨z.b,7,.inr ⟨fun h=>h.1 (zu HF),rfl,rfl⟩,rfl,.inr ⟨by omega,VarL.any (zu V0)⟩,below_grown (Below.refl _ _)⟩
 have fb:(z.b.lot==1000000000)=false:=by simpa using full
 have HF:=zh full
 clear full
 go_enter Tryz.func212,Tryz.ntmps212
 go_wp2_with fail
 have K4:=And.intro d3 d5
 have HW:IntKind.i64.wrap (z.b.lot+1)=z.b.lot+1:=by rw[IntKind.wrap_i64];omega
 go_region_held3 (fun w'=>w'.cell? ⟨g,3,none⟩=some (.slice ao n k)∧w'.cell? ⟨g,5,none⟩=some (.int .i64 z.b.lot)) (first|exact K4|exact K5)
  (first|(go_at_call 223;refine(Open0.openV u.drew (base+4) (.slice ao n k) z.b.ls _ a i (z.b.lot+1) q cost ok okl okn (zh rfl) nl (zu O0).ol (zu HO) (zu HL) (zu HN)).mono ?_;rintro e w2 ⟨g2,c2,rfl,o2,bb⟩;have bW:Below u.heap.size u w2:=below_of_drew bb;have V2:=zh (Box.below (zu V0) bW hgu.2);have K5:=And.intro (Box.c3 (zu V2)) (Box.c5 (zu V2));have BW:=zh bW;have O2:=zh (show Tup5.Own5 120 w2 u.heap.size g2 _ c2 _ from o2);clear o2 bb bW))
 clear K4 K5 d3 d5
 have e3:=Box.c3 (zu V2)
 have e5:=Box.c5 (zu V2)
 have f3:=Box.free (zu V2) 3
 have f5:=Box.free (zu V2) 5
 rcases open_cases ok okl okn with⟨rfl,rfl,rfl⟩|⟨hne,hno⟩
 ·obtain⟨R,hR⟩:∃R,Hid (Lots.mergeL (z.b.ls.length+1) z.b.ls [opened z.b a i q cost]=R):=⟨_,rfl⟩
  have O2:=zh (show Tup5.Own5 120 w2 u.heap.size g2 R.length c2 R from by rw[←zu hR];exact zu O2)
  have IS:=zh (show IsOpen z.b a i q cost (withL z g2 c2 R (z.b.lot+1)).b 0 from .inl ⟨⟨zu HF,(zu HO).yes,(zu HL).yes,(zu HN).yes⟩,by rw[←zu hR],rfl⟩)
  rw[show(SOpen.openA z.b.ls (Lots.mergeL (z.b.ls.length+1) z.b.ls [(a,i,z.b.lot+1,q,cost)]) true true true).length=R.length from by rw[←zu hR];rfl,show SOpen.openC true true true=0 from rfl]
  go_wp2
  go_ret
  have OL:=(zu O0).below (zu BW) (Nat.le_refl _)
  have la:=OL.oa.lt
  have li:=OL.oi.lt
  have lb:=OL.ob.lt
  have lt:=OL.ot.lt
  have l2:=(zu O2).lt
  have l0:=(zu O0).oa.lt
  have OY:Ow w2 (base+4) (withL z g2 c2 R (z.b.lot+1)):=⟨OL.oa,OL.oi,OL.ob,(zu O2).rebase (by omega),OL.ot⟩
  have F:Off (withL z g2 c2 R (z.b.lot+1)) g:=by
   unfold Off withL
   simp
   omega
  refine⟨(withL z g2 c2 R (z.b.lot+1)).b,0,zu IS,rfl,.inl ⟨rfl,withL z g2 c2 R (z.b.lot+1),rfl,(Box.set5 (Box.set3 (zu V2) _).1 _).1,ow_set (ow_set OY F 3 _) F 5 _,rfl,rfl⟩,Pairs.grown_trans (below_grown (zu BW)) (Pairs.grown_trans (Box.set3 (zu V2) _).2 (Box.set5 (Box.set3 (zu V2) _).1 _).2)⟩
 ·have IS:=zh (show IsOpen z.b a i q cost z.b 7 from .inr ⟨fun h=>hno ⟨(zu HO).of h.2.1,(zu HL).of h.2.2.1,(zu HN).of h.2.2.2⟩,rfl,rfl⟩)
  obtain⟨c,hc⟩:∃c,Hid (SOpen.openC ok okl okn=c):=⟨_,rfl⟩
  have cb:(c !=0)=true:=by rw[←zu hc];simpa using hne
  rw[zu hc]
  clear hne hno
  go_wp2
  go_ret
  exact⟨z.b,7,zu IS,rfl,.inr ⟨by omega,VarL.any (zu V2)⟩,below_grown (zu BW)⟩
end IOpenBk
namespace Concat3
open Triples
open Bals (T3)
open LegApp (info2)
def OwnV(e:TypeId)(w:World)(base:Nat)(v:Value)(ps:List T3):Prop:=w.ownsRow base e 3 v ps.length (flat3 ps)
theorem OwnV.cases{e:TypeId}{w:World}{base:Nat}{v:Value}{ps:List T3}(h:OwnV e w base v ps):(v= .slice none 0 0∧ps=[])∨∃g c,v= .slice (some ⟨g,0,none⟩) ps.length c∧Own3 e w base g ps.length c ps:=by
 rcases h.2 with⟨h1,h2⟩|⟨g,c,cur,h1,h2⟩
 ·exact .inl ⟨h1,List.eq_nil_of_length_eq_zero h2⟩
 ·refine .inr ⟨g,c,h1,?_⟩
  have h':w.ownsRow base e 3 v ps.length (flat3 ps):=h
  rw[h1] at h'
  exact h'
theorem OwnV.of{e:TypeId}{w:World}{base g n c:Nat}{ps:List T3}(h:Own3 e w base g n c ps):OwnV e w base (.slice (some ⟨g,0,none⟩) n c) ps:=by
 unfold OwnV
 rw[h.len]
 exact h
theorem OwnV.nil(e:TypeId)(w:World)(base:Nat):OwnV e w base (.slice none 0 0) []:=⟨rfl,.inl ⟨rfl,rfl⟩⟩
theorem OwnV.lt{e:TypeId}{w:World}{base:Nat}{v:Value}{ps:List T3}(h:OwnV e w base v ps):∀g,v.ownBlock=some g→base≤g∧g<w.heap.size:=fun g hg=>World.ownsRow.lt h g hg
theorem OwnV.below{e:TypeId}{w w':World}{base B:Nat}{v:Value}{ps:List T3}(h:OwnV e w base v ps)(k:Below B w w')(hB:∀g,v.ownBlock=some g→g<B):OwnV e w' base v ps:=by
 rcases h.cases with⟨rfl,rfl⟩|⟨g,c,rfl,o⟩
 ·exact OwnV.nil _ _ _
 ·exact OwnV.of (o.below k (hB g rfl))
theorem OwnV.kept{e:TypeId}{w w':World}{base:Nat}{row:Option Nat}{v:Value}{ps:List T3}(h:OwnV e w base v ps)(k:w.grownBy w' row)(hne:∀g,v.ownBlock=some g→row≠some g):OwnV e w' base v ps:=by
 rcases h.cases with⟨rfl,rfl⟩|⟨g,c,rfl,o⟩
 ·exact OwnV.nil _ _ _
 ·exact OwnV.of (o.kept k (fun e=>hne g rfl e.symm))
theorem OwnV.rebase{e:TypeId}{w:World}{base base':Nat}{v:Value}{ps:List T3}(h:OwnV e w base v ps)(hb:base'≤base):OwnV e w base' v ps:=by
 rcases h.cases with⟨rfl,rfl⟩|⟨g,c,rfl,o⟩
 ·exact OwnV.nil _ _ _
 ·exact OwnV.of (o.rebase (Nat.le_trans hb o.lt.1))
theorem wp_catV(u:World){ops:Array Oper}{rest:List Oper}{o:Oper}{a:Act}{Q:Exit→Act→World→Prop}(hgd:o.guard=none)(s x:Operand)
  (ho:o.op= .call {callee:= .builtin .append,args:= #[s,x],argTypes:= #[31,31]})(base m:Nat)(v:Value)(ps qs:List T3)(vb c:Nat)
  (hs:a.eval s=v)(hx:a.eval x= .slice (some ⟨vb,0,none⟩) m c)(hown:OwnV 67 u base v ps)(hl:qs.length=m)(hv:At3 u vb qs)(hn:ps.length+m≤1048576)(hb:base≤u.heap.size)
  (h:∀v' w',OwnV 67 w' base v' (ps++qs)→u.grownBy w' v.ownBlock→(v'.ownBlock=v.ownBlock∨v'.ownBlock=some u.heap.size)→wpList Tryz.prog ops Q rest (a.put o.dst v') w'):wpList Tryz.prog ops Q (o::rest) a u:=by
 obtain⟨i0,hi,hz0,hz1,hz2⟩:=info_parts info2
 refine wpList_append_own_at u hgd s x 31 ho base 67 i0 (.agg #[.int .i64 0,.int .i64 0,.int .i64 0]) 3 24 Tryz.underlying31 hi hz0 hz1 hz2 rfl (by decide) v ps.length _ hs hown ⟨vb,0,none⟩ m c (flat3 qs) hx (by rw[flat3_len,hl]) hv.cells (fun u hu=>flat3_one u _ hu) (by unfold maxLen;omega) (by omega) hb ?_
 intro v' w' own' gr' nil' loc'
 refine h v' w' ?_ gr' loc'
 unfold OwnV
 rw[flat3_append,List.length_append,hl]
 exact own'
theorem grow_some(w:World)(k:Nat)(h0:0<k)(h20:k≤1048576):Calls Tryz.prog 166 #[.slice none 0 0,.int .i64 k] w fun e w'=>∃v,e= .returned v∧OwnV 67 w' w.heap.size v []∧Below w.heap.size w w':=by
 obtain⟨i0,hi,hz0,hz1,hz2⟩:=info_parts info2
 have kp:(0:Int)<(k:Int):=by omega
 have hold:(Builtin.firstCells i0.size 0 (.slice none 0 0)).run Tryz.prog w.drew= .ok ([]:List Value).toArray w.drew:=run_firstCells_none _ _ _ _ _
 obtain⟨G,hG⟩:∃G,G=grownCap w k 0 67:=⟨_,rfl⟩
 have hG1:k≤G:=by rw[hG];exact grownCap_ge w _ _ _
 have hG2:G≤maxLen:=by rw[hG];exact grownCap_le_maxLen w _ _ _ (by unfold maxLen;omega)
 obtain⟨ROW,hROW⟩:∃ROW:Array Value,ROW=([]:List Value).toArray++Builtin.zeroCells (Value.agg #[.int .i64 0,.int .i64 0,.int .i64 0]).cells k++Builtin.zeroCells (Value.agg #[.int .i64 0,.int .i64 0,.int .i64 0]).cells (G-k):=⟨_,rfl⟩
 have hrz:∀ty,(Builtin.append_ #[31,3] ty #[.slice none 0 0,.int .i64 (k:Int)]).run Tryz.prog w= .ok (.slice (some ⟨w.heap.size,0,none⟩) k G) (w.drew.alloc (.cells ROW 67)):=fun ty=>by
  have h:=Lib.run_append_grow_zeros w 31 3 ty 67 i0 _ .i64 .i64 Tryz.underlying31 Tryz.underlying3 hi hz0 none 0 0 [] hold k h0 (by rw[hz1];decide) (by omega) (by omega) (by rw[hz2];omega) (by rw[hz2];exact growslice_fits (by omega) (by omega))
  rw[Nat.zero_add,←hG,←hROW] at h
  exact h
 have hRs:ROW.size=G*3:=by
  rw[hROW]
  simp[Builtin.zeroCells,Value.cells]
  omega
 have OV:=zh (show OwnV 67 (w.drew.alloc (.cells ROW 67)) w.heap.size (.slice (some ⟨w.heap.size,0,none⟩) 0 G) [] from⟨rfl,.inr ⟨w.heap.size,G,ROW,rfl,Nat.le_refl _,heap_alloc_new w.drew _,Nat.zero_le _,hG2,hRs,by simp[flat3]⟩⟩)
 have BB:=zh (show Below w.heap.size w (w.drew.alloc (.cells ROW 67)) from(Below.refl _ _).drew.alloc (Nat.le_refl _) _)
 have G63:(G:Int)≤9223372036854775807:=by unfold maxLen at hG2;omega
 clear hold hROW hRs hG hi hz0 hz1 hz2
 go_enter Tryz.func166,Tryz.ntmps166
 go_wp2_with (first|(at_builtin;refine Lib.wpList_append_run _ rfl _ _ _ _ rfl _ _ rfl rfl _ _ (hrz _) ?_)|go_in)
 go_ret
 exact⟨_,rfl,zu OV,zu BB⟩
theorem iConcat(w:World)(b g1 n1 c1 g2 n2 c2:Nat)(p1 p2:List T3)(l1:p1.length=n1)(l2:p2.length=n2)(h20:n1+n2≤1048576)(h0:0<n1+n2)
  (hb:b<w.heap.size)(q1:g1<w.heap.size)(q2:g2<w.heap.size)(a1:At3 w g1 p1)(a2:At3 w g2 p2)
  (s1:w.cell? ⟨b,0,none⟩=some (.slice (some ⟨g1,0,none⟩) n1 c1))(s2:w.cell? ⟨b,1,none⟩=some (.slice (some ⟨g2,0,none⟩) n2 c2)):
  Calls Tryz.prog 132 #[.slice (some ⟨b,0,none⟩) 2 2] w fun e w'=>∃g c,e= .returned (.slice (some ⟨g,0,none⟩) (p1++p2).length c)∧Own3 67 w' w.heap.size g (p1++p2).length c (p1++p2)∧Below w.heap.size w w':=by
 have A1:=zh a1
 have A2:=zh a2
 clear a1 a2
 go_enter Tryz.func132,Tryz.ntmps132
 go_wp2
 go_loop [3,5,11] (fun q _ j=>∃(k:Nat) (z:Int),j= .int .i64 k∧q= .int .i64 z∧((k=0∧z=0)∨(k=1∧z=(n1:Int))∨(k=2∧z=(n1:Int)+(n2:Int)))) (fun _ _ j=>2-(intOf j).toNat)
 case atStart=>exact⟨0,0,rfl,rfl,.inl ⟨rfl,rfl⟩⟩
 case round=>
  obtain⟨k,z,rfl,rfl,hk⟩:=hrel
  rcases hk with⟨rfl,rfl⟩|⟨rfl,rfl⟩|⟨rfl,rfl⟩
  ·go_wp2
   go_round
   case rel=>exact⟨1,(n1:Int),by go_num,by go_num,.inr (.inl ⟨rfl,rfl⟩)⟩
   case measure=>simp[intOf]
  ·go_wp2
   go_round
   case rel=>exact⟨2,(n1:Int)+(n2:Int),by go_num,by go_num,.inr (.inr ⟨rfl,rfl⟩)⟩
   case measure=>simp[intOf]
  ·have GR:=zh (show Calls Tryz.prog 166 #[.slice none 0 0,.int .i64 ((n1:Int)+(n2:Int))] w fun e w'=>∃v,e= .returned v∧OwnV 67 w' w.heap.size v []∧Below w.heap.size w w' from by
    have:=grow_some w (n1+n2) h0 h20
    rw[show((n1+n2:Nat):Int)=(n1:Int)+(n2:Int) by omega] at this
    exact this)
   go_wp2_with fail
   refine(zu GR).mono ?_
   rintro e w1 ⟨v,rfl,ov,b1⟩
   have OV:=zh ov
   have B1:=zh b1
   clear ov b1 GR
   go_wp2
   go_loopw [6,8,27] (fun x _ j wr=>∃(k:Nat) (v:Value) (out:List T3),j= .int .i64 k∧v=x∧Hid (OwnV 67 wr w.heap.size v out)∧Hid (Below w.heap.size w wr)∧((k=0∧out=[])∨(k=1∧p1=out)∨(k=2∧out=p1++p2))) (fun _ _ j _=>2-(intOf j).toNat)
   case atStart=>exact⟨0,v,[],rfl,rfl,OV,B1,.inl ⟨rfl,rfl⟩⟩
   case round=>
   clear OV B1
   obtain⟨k,v,out,rfl,rfl,OV,HB,hk⟩:=hrel
   rcases hk with⟨rfl,rfl⟩|⟨rfl,rfl⟩|⟨rfl,rfl⟩
   ·have s:wr.cell? ⟨b,0,none⟩=some (.slice (some ⟨g1,0,none⟩) n1 c1):=((zu HB).cell (p:=⟨b,0,none⟩) hb).trans s1
    have A:=zh ((zu A1).below (zu HB) q1)
    have bs:=(zu HB).size
    have LN:=zh (show([]:List T3).length+n1≤1048576 from by(try simp);omega)
    go_wp2_with (first|(at_builtin;refine wp_catV _ rfl _ _ rfl w.heap.size n1 v ([]:List T3) p1 g1 c1 rfl rfl (zu OV) l1 (zu A) (zu LN) bs ?_)|go_in)
    intro v5 w5 ov5 gr5 loc5
    have O5:=zh (show OwnV 67 w5 w.heap.size v5 (p1) from by have:=ov5;exact this)
    have B5:=zh ((zu HB).grown gr5 bs (fun j hj=>((zu OV).lt j hj).1))
    clear ov5 gr5 loc5 A s
    go_wp2
    go_roundw
    case rel=>exact⟨1,v5,p1,by go_num,rfl,O5,B5,.inr (.inl ⟨rfl,rfl⟩)⟩
    case measure=>simp[intOf]
   ·have s:wr.cell? ⟨b,1,none⟩=some (.slice (some ⟨g2,0,none⟩) n2 c2):=((zu HB).cell (p:=⟨b,1,none⟩) hb).trans s2
    have A:=zh ((zu A2).below (zu HB) q2)
    have bs:=(zu HB).size
    have LN:=zh (show(p1).length+n2≤1048576 from by(try simp);omega)
    go_wp2_with (first|(at_builtin;refine wp_catV _ rfl _ _ rfl w.heap.size n2 v (p1) p2 g2 c2 rfl rfl (zu OV) l2 (zu A) (zu LN) bs ?_)|go_in)
    intro v5 w5 ov5 gr5 loc5
    have O5:=zh (show OwnV 67 w5 w.heap.size v5 (p1++p2) from by have:=ov5;exact this)
    have B5:=zh ((zu HB).grown gr5 bs (fun j hj=>((zu OV).lt j hj).1))
    clear ov5 gr5 loc5 A s
    go_wp2
    go_roundw
    case rel=>exact⟨2,v5,p1++p2,by go_num,rfl,O5,B5,.inr (.inr ⟨rfl,rfl⟩)⟩
    case measure=>simp[intOf]
   ·rcases(zu OV).cases with⟨_,e⟩|⟨g,c,e,o⟩
    ·have h2:(p1++p2).length=0:=by rw[e];rfl
     rw[List.length_append] at h2
     omega
    ·subst e
     have O:=zh o
     clear o
     go_wp2
     go_ret
     exact⟨g,c,rfl,zu O,zu HB⟩
end Concat3
namespace ISet
open BMem Bks ILists BHelp Ans ICopied ICmdB IHave SBk ITakeBk ICmdW Trd
open SCarry (took_lot)
open SIssue (posted_small posted_lot ne_true eq_false)
open IBalsFit (one_more all_one)
open ITrade (at_new)
open Lots (Says says_of NoOk)
open Bals (T3)
open Tup8 (T8 el8)
open Triples (Own3 At3)
open SLegs (Six8)
open SCarryP (legs_formed legs_even)
open TBox (withS ow_state state_grown)
def SetP(b:Bk)(t:T8)(way:Int)(b':Bk)(gain c:Int):Prop:=
 ∃b1 c1,IsPosted b (legsT t) b1 c1∧((c1≠0∧c=c1)∨(c1=0∧∃b2 k2 c2,IsTake b1 t.2.2.1 t.2.2.2.1 t.2.2.2.2.1 way b2 k2 c2∧((c2≠0∧c=c2)∨(c2=0∧IsOpen b2 t.2.1 t.2.2.2.1 t.2.2.2.2.1 t.2.2.2.2.2.2.1 b' c∧gain=IntKind.i64.wrap (t.2.2.2.2.2.2.1-k2)))))
theorem take_ts{b b':Bk}{a i q way k c:Int}(h:IsTake b a i q way b' k c):b'.ts=b.ts:=by
 rcases h with⟨_,rfl,_⟩|⟨_,rfl,_⟩<;>rfl
theorem open_ts{b b':Bk}{a i q k c:Int}(h:IsOpen b a i q k b' c):b'.ts=b.ts:=by
 rcases h with⟨_,rfl,_⟩|⟨_,rfl,_⟩<;>rfl
theorem SetP.ts{b b':Bk}{t:T8}{way gain:Int}(h:SetP b t way b' gain 0):b'.ts=b.ts:=by
 obtain⟨b1,c1,hp,⟨h1,h2⟩|⟨rfl,b2,k2,c2,ht,⟨h1,h2⟩|⟨rfl,ho,_⟩⟩⟩:=h
 ·exact absurd h2.symm h1
 ·exact absurd h2.symm h1
 ·exact(open_ts ho).trans ((take_ts ht).trans (SSettle.posted_ts hp))
theorem SetP.done{b b':Bk}{no way gain:Int}{k:Nat}(h:SetP b (el8 b.ts k) way b' gain 0)(hk:IsAt b.ts no k)(hs:(el8 b.ts k).2.2.2.2.2.2.2=1):IsSettle b no way {b' with ts:=setState b'.ts k 2} gain 0:=by
 obtain⟨b1,c1,hp,⟨h1,h2⟩|⟨rfl,b2,k2,c2,ht,⟨h1,h2⟩|⟨rfl,ho,hg⟩⟩⟩:=h
 ·exact absurd h2.symm h1
 ·exact absurd h2.symm h1
 ·exact .inr ⟨k,hk,.inr ⟨hs,b1,0,hp,.inr ⟨rfl,b2,k2,0,ht,.inr ⟨rfl,b',0,ho,.inr ⟨rfl,rfl,hg,rfl⟩⟩⟩⟩⟩
theorem SetP.not{b b':Bk}{no way gain c:Int}{k:Nat}(h:SetP b (el8 b.ts k) way b' gain c)(hc:c≠0)(hk:IsAt b.ts no k)(hs:(el8 b.ts k).2.2.2.2.2.2.2=1):IsSettle b no way b 0 c:=by
 obtain⟨b1,c1,hp,⟨h1,h2⟩|⟨rfl,b2,k2,c2,ht,⟨h1,h2⟩|⟨rfl,ho,hg⟩⟩⟩:=h
 ·exact .inr ⟨k,hk,.inr ⟨hs,b1,c1,hp,.inl ⟨h1,rfl,rfl,h2⟩⟩⟩
 ·exact .inr ⟨k,hk,.inr ⟨hs,b1,0,hp,.inr ⟨rfl,b2,k2,c2,ht,.inl ⟨h1,rfl,rfl,h2⟩⟩⟩⟩
 ·exact .inr ⟨k,hk,.inr ⟨hs,b1,0,hp,.inr ⟨rfl,b2,k2,0,ht,.inr ⟨rfl,b',c,ho,.inl ⟨hc,rfl,rfl,rfl⟩⟩⟩⟩⟩
theorem iGivenO(w:World)(a c i q:Int)(q1:0≤q)(q2:q≤1000000000000000):
  Calls Tryz.prog 133 #[.int .i64 a,.int .i64 c,.int .i64 i,.int .i64 q] w fun e w'=>∃g,e= .returned (.slice (some ⟨g,0,none⟩) 2 2)∧Own3 67 w' w.heap.size g 2 2 (pairL a c i q)∧Below w.heap.size w w':=by
 have A:=zh (SLegs.own_pair w a c i q)
 go_enter Tryz.func133,Tryz.ntmps133
 go_wp2
 go_ret
 exact⟨w.heap.size,rfl,zu A,(Below.refl _ _).alloc (Nat.le_refl _) _⟩
theorem six_grown{w w':World}{g g0:Nat}{b s p q c r:Int}(h:Six8 w g b s p q c r)(k:w.grownBy w' (some g0))(hn:g≠g0):Six8 w' g b s p q c r:=by
 have n:some g≠some g0:=fun e=>by injection e;omega
 exact⟨k.cell h.1 n,k.cell h.2.1 n,k.cell h.2.2.1 n,k.cell h.2.2.2.1 n,k.cell h.2.2.2.2.1 n,k.cell h.2.2.2.2.2 n⟩
theorem iLegs(u:World)(n b s p q c r st:Int)(q1:0≤q)(q2:q≤1000000000000000)(r1:0≤r)(r2:r≤1000000000000000):
  Calls Tryz.prog 91 #[.agg #[.int .i64 n,.int .i64 b,.int .i64 s,.int .i64 p,.int .i64 q,.int .i64 c,.int .i64 r,.int .i64 st]] u fun e u'=>∃g3 c3,e= .returned (.slice (some ⟨g3,0,none⟩) 4 c3)∧Own3 67 u' u.heap.size g3 4 c3 (pairL b s c r++pairL s b p q)∧Below u.heap.size u u':=by
 have C0:=zh (show Six8 (u.alloc (.cells #[.int .i64 n,.int .i64 b,.int .i64 s,.int .i64 p,.int .i64 q,.int .i64 c,.int .i64 r,.int .i64 st] 64)) u.heap.size b s p q c r from by simp[Six8])
 have z0:u.heap.size<(u.alloc (.cells #[.int .i64 n,.int .i64 b,.int .i64 s,.int .i64 p,.int .i64 q,.int .i64 c,.int .i64 r,.int .i64 st] 64)).heap.size:=by simp
 have B0:=zh (one_more u (.cells #[.int .i64 n,.int .i64 b,.int .i64 s,.int .i64 p,.int .i64 q,.int .i64 c,.int .i64 r,.int .i64 st] 64))
 have M1:=trivial
 go_enter Tryz.func91,Tryz.ntmps91
 go_wp2_with fail
 generalize u.alloc (.cells #[.int .i64 n,.int .i64 b,.int .i64 s,.int .i64 p,.int .i64 q,.int .i64 c,.int .i64 r,.int .i64 st] 64)=w1 at *
 have K4:=zu C0
 unfold Six8 at K4
 go_region_held3 (fun w'=>w'.cell? ⟨u.heap.size,1,none⟩=some (.int .i64 b)∧w'.cell? ⟨u.heap.size,2,none⟩=some (.int .i64 s)∧w'.cell? ⟨u.heap.size,3,none⟩=some (.int .i64 p)∧w'.cell? ⟨u.heap.size,4,none⟩=some (.int .i64 q)∧w'.cell? ⟨u.heap.size,5,none⟩=some (.int .i64 c)∧w'.cell? ⟨u.heap.size,6,none⟩=some (.int .i64 r)) (first|exact K4|exact K5|exact K6|exact K7|exact K8)
  (first|(go_at_call 133;clear M1;refine(iGivenO w1.drew b s c r r1 r2).mono ?_;rintro e u1 ⟨g1,rfl,o1,bb⟩;have bW:=zh (show Below w1.heap.size w1 u1 from ILotsFit.below_of_drew bb);have K5:=(zu C0).below (zu bW) z0;unfold Six8 at K5;have O1:=zh (show Own3 67 u1 w1.heap.size g1 2 2 (pairL b s c r) from o1);have z1:=(zu bW).size;clear bb o1)|(go_at_call 133;refine(iGivenO u1 s b p q q1 q2).mono ?_;rintro e u2 ⟨g2,rfl,o2,bb2⟩;have bX:=zh ((zu bW).trans (bb2.mono z1));have K6:=(zu C0).below (zu bX) z0;unfold Six8 at K6;have K7:=(zu C0).below ((zu bX).alloc (zu bX).size (.cells #[.slice (some ⟨g1,0,none⟩) 2 2,.slice (some ⟨g2,0,none⟩) 2 2] 31)) z0;unfold Six8 at K7;have O2:=zh o2;have O3:=zh ((zu O1).below bb2 (zu O1).lt.2);have z2:=bb2.size;clear bb2 o2)|(go_at_call 132;refine(Concat3.iConcat _ u2.heap.size g1 2 2 g2 2 2 (pairL b s c r) (pairL s b p q) rfl rfl (by omega) (by omega) (by simp) (by have:=(zu O3).lt.2;simp;omega) (by have:=(zu O2).lt.2;simp;omega) ((zu O3).alloc _).at ((zu O2).alloc _).at (by simp) (by simp)).mono ?_;rintro e u3 ⟨g3,c3,rfl,o3,bb3⟩;have bY:=zh (Below.trans ((zu bX).alloc (zu bX).size _) (bb3.mono (by simp;omega)));have K8:=(zu C0).below (zu bY) z0;unfold Six8 at K8;have O4:=zh o3;have z3:=(zu bY).size;clear bb3 o3))
 clear K4 K5 K6 K7 K8
 have B9:=zh ((zu B0).trans ((zu bY).mono (Nat.le_of_lt z0)))
 have O9:=zh ((zu O4).rebase (base':=u.heap.size) (by have:=(zu O4).lt.1;simp at this;omega))
 go_wp2
 go_ret
 exact⟨g3,c3,rfl,zu O9,zu B9⟩
theorem iSettle(u:World)(z:Bx)(base g:Nat)(n b s p q c r st way:Int)(TO:TOne (n,b,s,p,q,c,r,st))(ok:Lists z.b)(sm:Small z.b)(V:Var u base g z)(O:Ow u (base+4) z)(hg:g<base+4):
  Calls Tryz.prog 194 #[.pointer (some ⟨g,0,none⟩),.agg #[.int .i64 n,.int .i64 b,.int .i64 s,.int .i64 p,.int .i64 q,.int .i64 c,.int .i64 r,.int .i64 st],.int .i64 way] u fun e u'=>∃(b':Bk) (gain c':Int),SetP z.b (n,b,s,p,q,c,r,st) way b' gain c'∧e= .returned (.tuple #[.int .i64 gain,.int .i64 c'])∧((c'=0∧∃y:Bx,y.b=b'∧Var u' base g y∧Ow u' (base+4) y∧y.gt=z.gt∧y.ct=z.ct)∨(c'≠0∧AnyBox u' base g))∧u.grownBy u' (some g):=by
 have q1:0≤q:=by have:=TO.2.2.2.2.2.2.1.1;simp at this;omega
 have q2:q≤1000000000000000:=TO.2.2.2.2.2.2.1.2
 have r1:0≤r:=TO.2.2.2.2.2.2.2.1.1
 have r2:r≤1000000000000000:=TO.2.2.2.2.2.2.2.1.2
 have LF:=zh (show Bals.Formed (pairL b s c r++pairL s b p q) from legs_formed TO)
 have LE:=zh (show Bals.Even (pairL b s c r++pairL s b p q) from legs_even (n,b,s,p,q,c,r,st))
 have LI:=zh ok
 have SM:=zh sm
 have C0:=zh (show Six8 (u.alloc (.cells #[.int .i64 n,.int .i64 b,.int .i64 s,.int .i64 p,.int .i64 q,.int .i64 c,.int .i64 r,.int .i64 st] 64)) u.heap.size b s p q c r from by simp[Six8])
 have z0:u.heap.size<(u.alloc (.cells #[.int .i64 n,.int .i64 b,.int .i64 s,.int .i64 p,.int .i64 q,.int .i64 c,.int .i64 r,.int .i64 st] 64)).heap.size:=by simp
 have gl:=(Box.lt V).2
 have D0:=zh ((DW.start V O sm).step (one_more u (.cells #[.int .i64 n,.int .i64 b,.int .i64 s,.int .i64 p,.int .i64 q,.int .i64 c,.int .i64 r,.int .i64 st] 64)))
 clear TO ok sm V O
 go_enter Tryz.func194,Tryz.ntmps194
 go_wp2_with fail
 refine(iLegs _ n b s p q c r st q1 q2 r1 r2).mono ?_
 rintro e u3 ⟨g3,c3,rfl,o3,bY⟩
 have C3:=zh ((zu C0).below bY z0)
 have D3:=zh ((zu D0).step bY)
 have O4:=zh o3
 have z3:=bY.size
 clear o3 bY
 generalize u.alloc (.cells #[.int .i64 n,.int .i64 b,.int .i64 s,.int .i64 p,.int .i64 q,.int .i64 c,.int .i64 r,.int .i64 st] 64)=w1 at *
 go_wp2_with fail
 refine(IPostB.iPostT u3 z base g g3 c3 (pairL b s c r++pairL s b p q) (zu LI) (zu SM) (zu D3).v (zu D3).o hg (show 4≤1048576 by omega) (zu O4).lt.2 (zu O4).at (zu LF) (zu LE)).mono ?_
 rintro e u4 ⟨y,e1,hpo,rfl,vy,oy,gr,ge,ce⟩
 have S4:=zh (six_grown (zu C3) gr (by omega))
 have G4:=zh (Pairs.grown_trans (zu D3).grown gr)
 have HP:=zh hpo
 have VY:=zh vy
 have OY:=zh oy
 have GE:=zh ge
 have CE:=zh ce
 have sz4:=gr.size
 clear hpo vy oy gr ge ce O4 D3 D0 C3 C0
 have LL:=zh (posted_lot (zu HP))
 have lu:u.heap.size<u4.heap.size:=by omega
 have gu:u.heap.size≠g:=by omega
 by_cases z1':e1=0
 rotate_left
 ·have zc:(e1 !=0)=true:=ne_true z1'
  have ZN:=zh z1'
  clear z1'
  go_wp2
  go_ret2
  exact⟨y.b,0,e1,⟨y.b,e1,zu HP,.inl ⟨zu ZN,rfl⟩⟩,rfl,.inr ⟨zu ZN,Var.any (zu VY)⟩,zu G4⟩
 subst z1'
 have SY:=zh (posted_small (zu HP) (zu SM))
 obtain⟨k1,k2,k3,k4,k5,k6⟩:=zu S4
 go_wp2_with fail
 refine(ITakeBk.iTakeBkT u4 y base g s p q way (zu SY) (zu VY) (zu OY) hg).mono ?_
 rintro e u5 ⟨b2,t2,c2,ht,rfl,hy,gr⟩
 have S5:=zh (six_grown (zu S4) gr gu)
 have G5:=zh (Pairs.grown_trans (zu G4) gr)
 have HT:=zh ht
 clear k1 k2 k3 k4 k5 k6 ht gr
 rcases hy with⟨rfl,y2,v2,hy,vl,ol,ge,ce⟩|⟨hne,ab⟩
 rotate_left
 ·have zc:(c2 !=0)=true:=ne_true hne
  have HN:=zh hne
  have AB:=zh ab
  clear hne ab
  go_wp2
  go_ret2
  exact⟨y.b,0,c2,⟨y.b,0,zu HP,.inr ⟨rfl,b2,t2,c2,zu HT,.inl ⟨zu HN,rfl⟩⟩⟩,rfl,.inr ⟨zu HN,zu AB⟩,zu G5⟩
 have HY:=zh hy
 have VL:=zh vl
 have OL:=zh ol
 have GE2:=zh (ge.trans (zu GE))
 have CE2:=zh (ce.trans (zu CE))
 have TL:=zh (took_lot (zu HT) (zu SY))
 have LOT:=zh (show 0≤y2.b.lot∧y2.b.lot≤1000000000 from by rw[zu HY,(zu TL).1,(zu LL).1];exact(zu LI).2.2.2.2.2)
 have NL:=zh (show y2.b.ls.length≤1048576 from by rw[zu HY];exact(zu TL).2)
 clear hy vl ol ge ce
 go_wp2_with fail
 have K4:=zu S5
 unfold Six8 at K4
 have VL':=zh (show VarL u5.drew base g y2 v2 from zu VL)
 have OL':=zh ((zu OL).below (Below.refl _ _).drew (Nat.le_refl _))
 go_region_held3 (fun w'=>w'.cell? ⟨u.heap.size,1,none⟩=some (.int .i64 b)∧w'.cell? ⟨u.heap.size,2,none⟩=some (.int .i64 s)∧w'.cell? ⟨u.heap.size,3,none⟩=some (.int .i64 p)∧w'.cell? ⟨u.heap.size,4,none⟩=some (.int .i64 q)∧w'.cell? ⟨u.heap.size,5,none⟩=some (.int .i64 c)∧w'.cell? ⟨u.heap.size,6,none⟩=some (.int .i64 r)) (first|exact K4|exact K5)
  (first|(go_at_call 212;refine(IOpenBk.iOpenBkT u5.drew y2 v2 base g b p q r (zu LOT) (zu NL) (zu VL') (zu OL') hg).mono ?_;rintro e u6 ⟨b3,d3,ho,rfl,hz,gr⟩;have S6:=zh (six_grown (show Six8 u5.drew u.heap.size b s p q c r from zu S5) gr gu);have K5:=zu S6;unfold Six8 at K5;have HO:=zh ho;have HZ:=zh hz;have G6:=zh (Pairs.grown_trans (zu G5) (show u5.grownBy u6 (some g) from⟨gr.os,gr.tape,gr.output,gr.size,gr.block⟩));clear ho hz gr))
 go_wp2
 go_ret2
 have HO2:=zu HO
 rw[zu HY] at HO2
 refine⟨b3,_,d3,⟨y.b,0,zu HP,.inr ⟨rfl,b2,t2,0,zu HT,.inr ⟨rfl,HO2,rfl⟩⟩⟩,rfl,?_,zu G6⟩
 rcases zu HZ with⟨h0,y3,e3,v3,o3,ge,ce⟩|h
 ·exact .inl ⟨h0,y3,e3,v3,o3,ge.trans (zu GE2),ce.trans (zu CE2)⟩
 ·exact .inr h
end ISet
namespace IEnd
open BMem Bks ILists BHelp Ans ICopied ICmdB IHave SBk ITakeBk ICmdW Trd
open SIssue (posted_small posted_lot ne_true eq_false)
open IBalsFit (one_more all_one)
open Lots (Says says_of NoOk)
open Bals (T3)
open Tup8 (T8 el8)
open TBox (withS ow_state state_grown)
open ISet (SetP)
open IPlace8 (IsPlace8 StandsAt8 place_at place_none iPlace)
theorem var_state{W:World}{base g:Nat}{z:Bx}(V:Var W base g z)(O:Ow W (base+4) z)(hg:g<base+4)(k:Nat)(s:Int):Var (W.setCell ⟨z.gt,k*8+7,none⟩ (.int .i64 s)) base g (withS z k s):=by
 have h:=Box.kept V (state_grown O k s) (fun e=>by injection e;have:=O.ot.lt;omega)
 unfold Var
 show Box _ base g _ _ _ _ (.slice (some ⟨z.gt,0,none⟩) (setState z.b.ts k s).length z.ct) _
 rw[set_len]
 exact h
structure Frt(u u':World)(g h:Nat):Prop where
 os:u'.os=u.os
 tape:u'.tape=u.tape
 output:u'.output=u.output
 size:u.heap.size≤u'.heap.size
 block:∀j,j<u.heap.size→j≠g→j≠h→u'.heap[j]?=u.heap[j]?
theorem Frt.refl(u:World)(g h:Nat):Frt u u g h:=⟨rfl,rfl,rfl,Nat.le_refl _,fun _ _ _ _=>rfl⟩
theorem Frt.trans{u v w:World}{g h:Nat}(a:Frt u v g h)(k:Frt v w g h):Frt u w g h:=
 ⟨k.os.trans a.os,k.tape.trans a.tape,k.output.trans a.output,Nat.le_trans a.size k.size,fun j hj hn hm=>(k.block j (Nat.lt_of_lt_of_le hj a.size) hn hm).trans (a.block j hj hn hm)⟩
theorem Frt.grown{u v:World}{g h r:Nat}(k:u.grownBy v (some r))(hr:r=g∨r=h):Frt u v g h:=
 ⟨k.os,k.tape,k.output,k.size,fun j hj hn hm=>k.block j hj (fun e=>by injection e;omega)⟩
theorem Frt.below{u v:World}{g h:Nat}(k:Below u.heap.size u v):Frt u v g h:=⟨k.os,k.tape,k.output,k.size,fun j hj _ _=>k.block j hj⟩
def DoesT(P:Bk→Int→Int→Prop)(base g gt:Nat)(u:World)(e:Ending)(u':World):Prop:=
 ∃(b':Bk) (t c:Int),P b' t c∧e= .returned (.tuple #[.int .i64 t,.int .i64 c])∧((c=0∧∃z,z.b=b'∧Var u' base g z∧Ow u' (base+4) z∧z.gt=gt)∨(c≠0∧AnyBox u' base g))∧Frt u u' g gt
def OpenP(b:Bk)(k:Nat)(kind way:Int)(b':Bk)(t c:Int):Prop:=
 (kind=0∧b'={b with ts:=setState b.ts k 3}∧t=0∧c=0)∨
 (kind=1∧∃b3 ga,SetP b (el8 b.ts k) way b3 ga c∧(c=0→t=ga∧b'={b3 with ts:=setState b3.ts k 2})∧(c≠0→b'=b))
theorem iEndOpen(u:World)(z:Bx)(base g k:Nat)(kind way:Int)(ok:Ok z.b)(hk:k<z.b.ts.length)(kd:kind=0∨kind=1)(V:Var u base g z)(O:Ow u (base+4) z)(hg:g<base+4):
  Calls Tryz.prog 177 #[.pointer (some ⟨g,0,none⟩),.pointer (some ⟨z.gt,k*8,none⟩),.agg #[.int .i64 kind,.int .i64 way]] u (DoesT (OpenP z.b k kind way) base g z.gt u):=by
 have TO:=zh (ok.1.2.2.2.2.1.2 k hk).1
 have LI:=zh ok.1
 have SM:=zh (ok_small ok)
 have D0:=zh ((DW.start V O (ok_small ok)).step (one_more u (.cells #[.int .i64 kind,.int .i64 way] 179)))
 have gl:=(Box.lt V).2
 have bu:base+4≤u.heap.size:=by have:=O.oa.lt;omega
 have tl:=O.ot.lt
 have w1way:(u.alloc (.cells #[.int .i64 kind,.int .i64 way] 179)).cell? ⟨u.heap.size,1,none⟩=some (.int .i64 way):=by simp
 have VU:=zh V
 have OU:=zh O
 clear ok V O
 rcases kd with rfl|rfl
 ·have e7:=((zu D0).o.ot.at k hk).2.2.2.2.2.2.2
  have e8:=(zu D0).o.ot.free (k*8+7)
  go_enter Tryz.func177,Tryz.ntmps177
  go_wp2
  go_ret2
  exact⟨_,0,0,.inl ⟨rfl,rfl,rfl,rfl⟩,rfl,.inl ⟨rfl,withS z k 3,rfl,World.ownsRow.alloc (var_state (zu VU) (zu OU) hg k 3) _,ow_alloc (ow_state (zu OU) k 3) _,rfl⟩,(Frt.grown (state_grown (zu OU) k 3) (.inr rfl)).trans (Frt.below (one_more _ _))⟩
 ·go_enter Tryz.func177,Tryz.ntmps177
  go_wp2_with fail
  have z0:u.heap.size<(u.alloc (.cells #[.int .i64 1,.int .i64 way] 179)).heap.size:=by simp
  generalize u.alloc (.cells #[.int .i64 1,.int .i64 way] 179)=w1 at *
  obtain⟨d0,d1,d2,d3,d4,d5,d6,d7⟩:=((zu D0).o.ot.at k hk)
  generalize hpt:el8 z.b.ts k=pt at *
  obtain⟨n,b,s,p,q,c,r,st⟩:=pt
  have HPT:=zh hpt
  clear hpt
  have D1:=zh ((zu D0).drew)
  have K4:w1.cell? ⟨z.gt,k*8,none⟩=some (.int .i64 n)∧w1.cell? ⟨z.gt,k*8+1,none⟩=some (.int .i64 b)∧w1.cell? ⟨z.gt,k*8+2,none⟩=some (.int .i64 s)∧w1.cell? ⟨z.gt,k*8+3,none⟩=some (.int .i64 p)∧w1.cell? ⟨z.gt,k*8+4,none⟩=some (.int .i64 q)∧w1.cell? ⟨z.gt,k*8+5,none⟩=some (.int .i64 c)∧w1.cell? ⟨z.gt,k*8+6,none⟩=some (.int .i64 r)∧w1.cell? ⟨z.gt,k*8+7,none⟩=some (.int .i64 st)∧w1.cell? ⟨u.heap.size,1,none⟩=some (.int .i64 way):=⟨d0,d1,d2,d3,d4,d5,d6,d7,w1way⟩
  go_region_held3 (fun w'=>w'.cell? ⟨z.gt,k*8,none⟩=some (.int .i64 n)∧w'.cell? ⟨z.gt,k*8+1,none⟩=some (.int .i64 b)∧w'.cell? ⟨z.gt,k*8+2,none⟩=some (.int .i64 s)∧w'.cell? ⟨z.gt,k*8+3,none⟩=some (.int .i64 p)∧w'.cell? ⟨z.gt,k*8+4,none⟩=some (.int .i64 q)∧w'.cell? ⟨z.gt,k*8+5,none⟩=some (.int .i64 c)∧w'.cell? ⟨z.gt,k*8+6,none⟩=some (.int .i64 r)∧w'.cell? ⟨z.gt,k*8+7,none⟩=some (.int .i64 st)∧w'.cell? ⟨u.heap.size,1,none⟩=some (.int .i64 way)) (first|exact K4|exact K5)
   (first|(go_at_call 194;refine(ISet.iSettle w1.drew z base g n b s p q c r st way (zu TO) (zu LI) (zu SM) (zu D1).v (zu D1).o hg).mono ?_;rintro e u2 ⟨b3,ga,c',hs,rfl,hz,gr⟩;have n1:some z.gt≠some g:=(fun e=>(by injection e;omega));have n2:some u.heap.size≠some g:=(fun e=>(by injection e;omega));have K5:u2.cell? ⟨z.gt,k*8,none⟩=some (.int .i64 n)∧u2.cell? ⟨z.gt,k*8+1,none⟩=some (.int .i64 b)∧u2.cell? ⟨z.gt,k*8+2,none⟩=some (.int .i64 s)∧u2.cell? ⟨z.gt,k*8+3,none⟩=some (.int .i64 p)∧u2.cell? ⟨z.gt,k*8+4,none⟩=some (.int .i64 q)∧u2.cell? ⟨z.gt,k*8+5,none⟩=some (.int .i64 c)∧u2.cell? ⟨z.gt,k*8+6,none⟩=some (.int .i64 r)∧u2.cell? ⟨z.gt,k*8+7,none⟩=some (.int .i64 st)∧u2.cell? ⟨u.heap.size,1,none⟩=some (.int .i64 way):=⟨gr.cell d0 n1,gr.cell d1 n1,gr.cell d2 n1,gr.cell d3 n1,gr.cell d4 n1,gr.cell d5 n1,gr.cell d6 n1,gr.cell d7 n1,gr.cell w1way n2⟩;have e7:u2.cell? ⟨z.gt,k*8+7,none⟩=some (.int .i64 st):=gr.cell d7 n1;have HS:=zh hs;have HZ:=zh hz;have FR:=zh ((Frt.below (g:=g) (h:=z.gt) (zu D1).b).trans (Frt.grown gr (.inl rfl)));have bu2:=Nat.le_trans bu (Nat.le_trans (zu D1).b.size gr.size);clear hs hz gr))
  clear K4 K5 d0 d1 d2 d3 d4 d5 d6 d7 w1way D0 D1
  by_cases zc:c'=0
  ·subst zc
   rcases zu HZ with⟨_,y,hy,vy,oy,ge,ce⟩|⟨hne,_⟩
   rotate_left
   ·exact absurd rfl hne
   have e8:=oy.ot.free (k*8+7)
   rw[ge] at e8
   have HY:=zh hy
   have V1:=zh (show Var (u2.setCell ⟨z.gt,k*8+7,none⟩ (.int .i64 2)) base g (withS y k 2) from by rw[←ge];exact var_state vy oy hg k 2)
   have O1:=zh (show Ow (u2.setCell ⟨z.gt,k*8+7,none⟩ (.int .i64 2)) (base+4) (withS y k 2) from by rw[←ge];exact ow_state oy k 2)
   have F1:=zh (show Frt u (u2.setCell ⟨z.gt,k*8+7,none⟩ (.int .i64 2)) g z.gt from(zu FR).trans (by have q:=state_grown oy k 2;rw[ge] at q;exact Frt.grown q (.inr rfl)))
   have G1:=zh (show(withS y k 2).gt=z.gt from ge)
   clear hy vy oy ge ce HZ
   go_wp2
   go_ret2
   exact⟨_,ga,0,.inr ⟨rfl,b3,ga,by rw[zu HPT];exact zu HS,fun _=>⟨rfl,rfl⟩,fun e=>absurd rfl e⟩,rfl,.inl ⟨rfl,withS y k 2,by rw[←zu HY],zu V1,zu O1,zu G1⟩,zu F1⟩
  ·have zcb:(c'==0)=false:=eq_false zc
   have ZN:=zh zc
   have AB:=zh (show AnyBox u2 base g from by
    rcases zu HZ with⟨h,_⟩|⟨_,h⟩
    ·exact absurd h zc
    ·exact h)
   clear zc HZ
   go_wp2
   go_ret2
   exact⟨z.b,ga,c',.inr ⟨rfl,b3,ga,by rw[zu HPT];exact zu HS,fun e=>absurd e (zu ZN),fun _=>rfl⟩,rfl,.inr ⟨zu ZN,zu AB⟩,zu FR⟩
theorem iEndEnded(u:World)(v1 v2:Value)(kind way:Int):
  Calls Tryz.prog 178 #[v1,v2,.agg #[.int .i64 kind,.int .i64 way]] u fun e u'=>e= .returned (.tuple #[.int .i64 0,.int .i64 6])∧Below u.heap.size u u':=by
 go_enter Tryz.func178,Tryz.ntmps178
 go_wp2
 go_ret2
 exact⟨rfl,one_more _ _⟩
def EndP(b:Bk)(no kind way:Int)(b':Bk)(t c:Int):Prop:=
 (kind=0∧IsCancel b no b' c∧t=0)∨(kind=1∧∃t',IsSettle b no way b' t' c∧(c=0→t=t'))
theorem end_none{b:Bk}{no kind way:Int}(kd:kind=0∨kind=1)(h:NoneAt b.ts no):EndP b no kind way b 0 3:=by
 rcases kd with rfl|rfl
 ·exact .inl ⟨rfl,.inl ⟨h,rfl,rfl⟩,rfl⟩
 ·exact .inr ⟨rfl,0,.inl ⟨h,rfl,rfl,rfl⟩,fun _=>rfl⟩
theorem end_ended{b:Bk}{no kind way:Int}{k:Nat}(kd:kind=0∨kind=1)(h:IsAt b.ts no k)(hs:(el8 b.ts k).2.2.2.2.2.2.2≠1):EndP b no kind way b 0 6:=by
 rcases kd with rfl|rfl
 ·exact .inl ⟨rfl,.inr ⟨k,h,.inl ⟨hs,rfl,rfl⟩⟩,rfl⟩
 ·exact .inr ⟨rfl,0,.inr ⟨k,h,.inl ⟨hs,rfl,rfl,rfl⟩⟩,fun _=>rfl⟩
theorem end_open{b b':Bk}{no kind way t c:Int}{k:Nat}(h:IsAt b.ts no k)(hs:(el8 b.ts k).2.2.2.2.2.2.2=1)(o:OpenP b k kind way b' t c):EndP b no kind way b' t c:=by
 rcases o with⟨rfl,rfl,rfl,rfl⟩|⟨rfl,b3,ga,hp,h1,h2⟩
 ·exact .inl ⟨rfl,.inr ⟨k,h,.inr ⟨hs,rfl,rfl⟩⟩,rfl⟩
 ·by_cases z:c=0
  ·subst z
   obtain⟨rfl,rfl⟩:=h1 rfl
   exact .inr ⟨rfl,t,hp.done h hs,fun _=>rfl⟩
  ·rw[h2 z]
   exact .inr ⟨rfl,0,hp.not z h hs,fun e=>absurd e z⟩
abbrev oE0:Oper:={dst:=some 29,op:=Go.Op.move (Go.Operand.tmp 11),type:=212,pos:= "l07_trade.go:102",after:= #[],guard:=none}
abbrev oE1:Oper:={dst:=some 30,op:=Go.Op.nilCheck (Go.Operand.tmp 29),type:=0,pos:= "l07_trade.go:102",after:= #[{on:=0,ground:=Go.Ground.data}],guard:=none}
abbrev oE2:Oper:={dst:=some 31,op:=Go.Op.fieldAddr 64 (Go.Operand.tmp 30) 7,type:=0,pos:= "l07_trade.go:102",after:= #[{on:=1,ground:=Go.Ground.data}],guard:=none}
abbrev oE3:Oper:={dst:=some 32,op:=Go.Op.load 3 (Go.Operand.tmp 31),type:=3,pos:= "l07_trade.go:102",after:= #[{on:=2,ground:=Go.Ground.data}],guard:=none}
abbrev oE4:Oper:={dst:=some 33,op:=Go.Op.indexAddr 211 (Go.Operand.tmp 10) (Go.Operand.tmp 32),type:=0,pos:= "l07_trade.go:102",after:= #[{on:=3,ground:=Go.Ground.data}],guard:=none}
abbrev oE5:Oper:={dst:=some 34,op:=Go.Op.load 209 (Go.Operand.tmp 33),type:=209,pos:= "l07_trade.go:102",after:= #[{on:=4,ground:=Go.Ground.data}],guard:=none}
abbrev oE6:Oper:={dst:=some 35,op:=Go.Op.move (Go.Operand.tmp 0),type:=98,pos:= "l07_trade.go:102",after:= #[],guard:=none}
abbrev oE7:Oper:={dst:=some 36,op:=Go.Op.move (Go.Operand.tmp 11),type:=212,pos:= "l07_trade.go:102",after:= #[],guard:=none}
abbrev oE8:Oper:={dst:=some 37,op:=Go.Op.load 179 (Go.Operand.tmp 5),type:=179,pos:= "l07_trade.go:102",after:= #[],guard:=none}
abbrev oE9:Oper:={dst:=some 38,op:=Go.Op.call {callee:=Go.Callee.value (Go.Operand.tmp 34),args:= #[Go.Operand.tmp 35,Go.Operand.tmp 36,Go.Operand.tmp 37],argTypes:= #[98,212,179]},type:=59,pos:= "l07_trade.go:102",after:= #[{on:=5,ground:=Go.Ground.data},{on:=6,ground:=Go.Ground.data},{on:=7,ground:=Go.Ground.data},{on:=8,ground:=Go.Ground.data}],guard:=none}
abbrev oE10:Oper:={dst:=some 39,op:=Go.Op.extract (Go.Operand.tmp 38) 0,type:=3,pos:= "l07_trade.go:102",after:= #[{on:=9,ground:=Go.Ground.data}],guard:=none}
abbrev oE11:Oper:={dst:=some 40,op:=Go.Op.extract (Go.Operand.tmp 38) 1,type:=3,pos:= "l07_trade.go:102",after:= #[{on:=9,ground:=Go.Ground.data}],guard:=none}
abbrev oE12:Oper:={dst:=some 6,op:=Go.Op.assign (Go.Operand.tmp 39),type:=3,pos:= "l07_trade.go:102",after:= #[{on:=10,ground:=Go.Ground.data},{on:=9,ground:=Go.Ground.chain},{on:=0,ground:=Go.Ground.phase},{on:=1,ground:=Go.Ground.phase},{on:=2,ground:=Go.Ground.phase},{on:=3,ground:=Go.Ground.phase},{on:=4,ground:=Go.Ground.phase},{on:=5,ground:=Go.Ground.phase},{on:=6,ground:=Go.Ground.phase},{on:=7,ground:=Go.Ground.phase},{on:=8,ground:=Go.Ground.phase},{on:=9,ground:=Go.Ground.phase},{on:=10,ground:=Go.Ground.phase},{on:=11,ground:=Go.Ground.phase}],guard:=none}
abbrev oE13:Oper:={dst:=some 7,op:=Go.Op.assign (Go.Operand.tmp 40),type:=3,pos:= "l07_trade.go:102",after:= #[{on:=11,ground:=Go.Ground.data},{on:=12,ground:=Go.Ground.chain},{on:=0,ground:=Go.Ground.phase},{on:=1,ground:=Go.Ground.phase},{on:=2,ground:=Go.Ground.phase},{on:=3,ground:=Go.Ground.phase},{on:=4,ground:=Go.Ground.phase},{on:=5,ground:=Go.Ground.phase},{on:=6,ground:=Go.Ground.phase},{on:=7,ground:=Go.Ground.phase},{on:=8,ground:=Go.Ground.phase},{on:=9,ground:=Go.Ground.phase},{on:=10,ground:=Go.Ground.phase},{on:=11,ground:=Go.Ground.phase},{on:=12,ground:=Go.Ground.phase}],guard:=none}
theorem iEndTradeT(u:World)(z:Bx)(base g:Nat)(no kind way:Int)(ok:Ok z.b)(kd:kind=0∨kind=1)(V:Var u base g z)(O:Ow u (base+4) z)(hg:g<base+4):
  Calls Tryz.prog 143 #[.pointer (some ⟨g,0,none⟩),.int .i64 no,.agg #[.int .i64 kind,.int .i64 way]] u (DoesT (EndP z.b no kind way) base g z.gt u):=by
 have OK:=zh ok
 have KD:=zh kd
 have AS:=zh (asc ok.1.2.2.2.2.1)
 have D0:=zh ((DW.start V O (ok_small ok)).step (one_more u (.cells #[.int .i64 kind,.int .i64 way] 179)))
 have bu:base+4≤u.heap.size:=by have:=O.oa.lt;omega
 have gl:=(Box.lt V).2
 have nt:=(zu D0).r.nt
 have d0:=(zu D0).v.c0
 have d1:=(zu D0).v.c1
 have d2:=(zu D0).v.c2
 have d3:=(zu D0).v.c3
 have d4:=(zu D0).v.c4
 have d5:=(zu D0).v.c5
 have z0:u.heap.size<(u.alloc (.cells #[.int .i64 kind,.int .i64 way] 179)).heap.size:=by simp
 have b0:(u.alloc (.cells #[.int .i64 kind,.int .i64 way] 179)).cell? ⟨u.heap.size,0,none⟩=some (.int .i64 kind):=by simp
 have b1:(u.alloc (.cells #[.int .i64 kind,.int .i64 way] 179)).cell? ⟨u.heap.size,1,none⟩=some (.int .i64 way):=by simp
 clear ok V O kd
 go_enter Tryz.func143,Tryz.ntmps143
 go_wp2_with fail
 generalize u.alloc (.cells #[.int .i64 kind,.int .i64 way] 179)=w1 at *
 refine(iPlace _ z no (zu D0).r AS).mono ?_
 rintro e w2 ⟨k,f,hc,hf,rfl,bb⟩
 have D2:=zh ((zu D0).step bb)
 have c0:=(bb.cell (p:=⟨u.heap.size,0,none⟩) z0).trans b0
 have c1:=(bb.cell (p:=⟨u.heap.size,1,none⟩) z0).trans b1
 have z2:=Nat.lt_of_lt_of_le z0 bb.size
 clear bb d0 d1 d2 d3 d4 d5 b0 b1 z0
 cases f
 ·have EN:=zh (end_none (way:=way) (zu KD) (place_none hc hf (zu AS)))
  clear hc hf
  go_wp2
  go_ret2
  exact⟨z.b,0,3,zu EN,rfl,.inr ⟨by omega,Var.any (zu D2).v⟩,Frt.below (zu D2).b⟩
 have HK:=zh (place_at hc hf)
 have hk:k<z.b.ts.length:=(place_at hc hf).1
 have STT:=zh ((zu OK).1.2.2.2.2.1.2 k hk).1.2.2.2.2.2.2.2.2
 clear hc hf
 have d4:=(zu D2).v.c4
 have d7:=((zu D2).o.ot.at k hk).2.2.2.2.2.2.2
 obtain⟨st,hst⟩:∃st,(el8 z.b.ts k).2.2.2.2.2.2.2=st:=⟨_,rfl⟩
 rw[hst] at d7
 have STE:st=1∨st=2∨st=3:=by
  have:=zu STT
  rw[hst] at this
  omega
 have HST:=zh hst
 clear hst STT
 have sn:∀(w:World) (a:Addr) (m),(store a .nilFunc m).run Tryz.prog w=stored Tryz.prog w a .nilFunc m:=fun w a m=>run_store Tryz.prog w a _ m rfl
 have sf:∀(w:World) (a:Addr) (fn:Fn) (x y:Array Value) (m),(store a (.func fn x y) m).run Tryz.prog w=stored Tryz.prog w a (.func fn x y) m:=fun w a fn x y m=>run_store Tryz.prog w a _ m rfl
 have g2:g<w2.heap.size:=Nat.lt_of_lt_of_le gl (zu D2).b.size
 have t2:z.gt<w2.heap.size:=(zu D2).o.ot.lt.2
 go_wp2_with fail
 refine SSettle.to_wc (fun W=>DW u W z base g∧W.cell? ⟨u.heap.size,0,none⟩=some (.int .i64 kind)∧W.cell? ⟨u.heap.size,1,none⟩=some (.int .i64 way)∧W.cell? ⟨w2.heap.size,1,none⟩=some (.func (.func 177) #[] #[])∧W.cell? ⟨w2.heap.size,2,none⟩=some (.func (.func 178) #[] #[])∧W.cell? ⟨w2.heap.size,3,none⟩=some (.func (.func 178) #[] #[])) ⟨(zu D2).step (one_more w2 _),(World.cell?_alloc_past _ _ _ z2).trans c0,(World.cell?_alloc_past _ _ _ z2).trans c1,by simp,by simp,by simp⟩ ?_
 rintro w3 ⟨D3',e0,e1,p1,p2,p3⟩
 have D3:=zh D3'
 clear D3' d4 d7 c0 c1 sn sf g2 t2
 have D3d:=zh ((zu D3).drew)
 have d7:=((zu D3).o.ot.at k hk).2.2.2.2.2.2.2
 rw[zu HST] at d7
 rcases STE with rfl|rfl|rfl
 ·refine wp_region_held_drew (S:=(fun _=>True)) (by kernel_rfl) trivial (fun hHeld=>?_)
  refine tk 0 oE0 (.pointer (some ⟨z.gt,k*8,none⟩)) rfl (by kernel_rfl) (fun _ _ _ h=>h) (by rfl) (fun w hSw=>?_) hHeld ?_
  ·(try dsimp only at hSw)
   unfold oE0
   go_simp
  try simp only[oE0,Act.put,zA,zB,zC]
  refine tk 1 oE1 (.pointer (some ⟨z.gt,k*8,none⟩)) rfl (by kernel_rfl) (fun _ _ _ h=>h) (by rfl) (fun w hSw=>?_) hHeld ?_
  ·(try dsimp only at hSw)
   unfold oE1
   go_simp
  try simp only[oE1,Act.put,zA,zB,zC]
  refine tk 2 oE2 (.pointer (some ⟨z.gt,k*8+7,none⟩)) rfl (by kernel_rfl) (fun _ _ _ h=>h) (by rfl) (fun w hSw=>?_) hHeld ?_
  ·(try dsimp only at hSw)
   unfold oE2
   go_simp
  try simp only[oE2,Act.put,zA,zB,zC]
  refine tk 6 oE6 (.pointer (some ⟨g,0,none⟩)) rfl (by kernel_rfl) (fun _ _ _ h=>h) (by rfl) (fun w hSw=>?_) hHeld ?_
  ·(try dsimp only at hSw)
   unfold oE6
   go_simp
  try simp only[oE6,Act.put,zA,zB,zC]
  refine tk 7 oE7 (.pointer (some ⟨z.gt,k*8,none⟩)) rfl (by kernel_rfl) (fun _ _ _ h=>h) (by rfl) (fun w hSw=>?_) hHeld ?_
  ·(try dsimp only at hSw)
   unfold oE7
   go_simp
  try simp only[oE7,Act.put,zA,zB,zC]
  refine wpAnyH_ready (rs:=[3,8]) (by kernel_rfl) (by simp) ?_
  refine AllReadyH.cons (o:=oE3) rfl (fun K hK=>?_) (AllReadyH.cons (o:=oE8) rfl (fun K hK=>?_) AllReadyH.nil)
  ·unfold oE3
   go_simp
   refine hK.out _ _ trivial (fun hHeld=>?_)
   clear hK K
   try simp only[oE3,Act.put,zA,zB,zC]
   refine tk 4 oE4 (.pointer (some ⟨w2.heap.size,1,none⟩)) rfl (by kernel_rfl) (fun _ _ _ h=>h) (by rfl) (fun w hSw=>?_) hHeld ?_
   ·(try dsimp only at hSw)
    unfold oE4
    go_simp
   try simp only[oE4,Act.put,zA,zB,zC]
   refine wpAnyH_ready (rs:=[5,8]) (by kernel_rfl) (by simp) ?_
   refine AllReadyH.cons (o:=oE5) rfl (fun K hK=>?_) (AllReadyH.cons (o:=oE8) rfl (fun K hK=>?_) AllReadyH.nil)
   ·unfold oE5
    go_simp
    refine hK.out _ _ trivial (fun hHeld=>?_)
    clear hK K
    try simp only[oE5,Act.put,zA,zB,zC]
    refine wpAnyH_ready (rs:=[8]) (by kernel_rfl) (by simp) ?_
    refine AllReadyH.cons (o:=oE8) rfl (fun K hK=>?_) AllReadyH.nil
    unfold oE8
    go_simp
    refine hK.out _ _ trivial (fun hHeld=>?_)
    clear hK K
    try simp only[oE8,Act.put,zA,zB,zC]
    refine wpAnyH_ready (rs:=[9]) (by kernel_rfl) (by simp) ?_
    refine AllReadyH.cons (o:=oE9) rfl (fun K hK=>?_) AllReadyH.nil
    unfold oE9
    go_simp
    refine(iEndOpen w3.drew z base g k kind way (zu OK) hk (zu KD) (zu D3d).v (zu D3d).o hg).mono ?_
    rintro e u4 ⟨b',t,c,hp,rfl,hz,fr⟩
    have HP:=zh (end_open (zu HK) (zu HST) hp)
    have HZ:=zh hz
    have FR:=zh ((Frt.below (g:=g) (h:=z.gt) (zu D3d).b).trans fr)
    clear hp hz fr
    go_wp2_with fail
    refine hK.out _ _ trivial (fun hHeld=>?_)
    clear hK K
    try simp only[oE9,Act.put,zA,zB,zC]
    refine tk 10 oE10 (.int .i64 t) rfl (by kernel_rfl) (fun _ _ _ h=>h) (by rfl) (fun w hSw=>?_) hHeld ?_
    ·(try dsimp only at hSw)
     unfold oE10
     go_simp
    try simp only[oE10,Act.put,zA,zB,zC]
    refine tk 11 oE11 (.int .i64 c) rfl (by kernel_rfl) (fun _ _ _ h=>h) (by rfl) (fun w hSw=>?_) hHeld ?_
    ·(try dsimp only at hSw)
     unfold oE11
     go_simp
    try simp only[oE11,Act.put,zA,zB,zC]
    refine tk 12 oE12 (.int .i64 t) rfl (by kernel_rfl) (fun _ _ _ h=>h) (by rfl) (fun w hSw=>?_) hHeld ?_
    ·(try dsimp only at hSw)
     unfold oE12
     go_simp
    try simp only[oE12,Act.put,zA,zB,zC]
    refine tk 13 oE13 (.int .i64 c) rfl (by kernel_rfl) (fun _ _ _ h=>h) (by rfl) (fun w hSw=>?_) hHeld ?_
    ·(try dsimp only at hSw)
     unfold oE13
     go_simp
    try simp only[oE13,Act.put,zA,zB,zC]
    refine wpAnyH_done (by kernel_rfl) ?_ _
    go_wp2
    go_ret2
    exact⟨b',t,c,zu HP,rfl,zu HZ,zu FR⟩
   ·unfold oE8
    go_simp
    refine hK.out _ _ trivial (fun hHeld=>?_)
    clear hK K
    try simp only[oE8,Act.put,zA,zB,zC]
    refine wpAnyH_ready (rs:=[5]) (by kernel_rfl) (by simp) ?_
    refine AllReadyH.cons (o:=oE5) rfl (fun K hK=>?_) AllReadyH.nil
    unfold oE5
    go_simp
    refine hK.out _ _ trivial (fun hHeld=>?_)
    clear hK K
    try simp only[oE5,Act.put,zA,zB,zC]
    refine wpAnyH_ready (rs:=[9]) (by kernel_rfl) (by simp) ?_
    refine AllReadyH.cons (o:=oE9) rfl (fun K hK=>?_) AllReadyH.nil
    unfold oE9
    go_simp
    refine(iEndOpen w3.drew z base g k kind way (zu OK) hk (zu KD) (zu D3d).v (zu D3d).o hg).mono ?_
    rintro e u4 ⟨b',t,c,hp,rfl,hz,fr⟩
    have HP:=zh (end_open (zu HK) (zu HST) hp)
    have HZ:=zh hz
    have FR:=zh ((Frt.below (g:=g) (h:=z.gt) (zu D3d).b).trans fr)
    clear hp hz fr
    go_wp2_with fail
    refine hK.out _ _ trivial (fun hHeld=>?_)
    clear hK K
    try simp only[oE9,Act.put,zA,zB,zC]
    refine tk 10 oE10 (.int .i64 t) rfl (by kernel_rfl) (fun _ _ _ h=>h) (by rfl) (fun w hSw=>?_) hHeld ?_
    ·(try dsimp only at hSw)
     unfold oE10
     go_simp
    try simp only[oE10,Act.put,zA,zB,zC]
    refine tk 11 oE11 (.int .i64 c) rfl (by kernel_rfl) (fun _ _ _ h=>h) (by rfl) (fun w hSw=>?_) hHeld ?_
    ·(try dsimp only at hSw)
     unfold oE11
     go_simp
    try simp only[oE11,Act.put,zA,zB,zC]
    refine tk 12 oE12 (.int .i64 t) rfl (by kernel_rfl) (fun _ _ _ h=>h) (by rfl) (fun w hSw=>?_) hHeld ?_
    ·(try dsimp only at hSw)
     unfold oE12
     go_simp
    try simp only[oE12,Act.put,zA,zB,zC]
    refine tk 13 oE13 (.int .i64 c) rfl (by kernel_rfl) (fun _ _ _ h=>h) (by rfl) (fun w hSw=>?_) hHeld ?_
    ·(try dsimp only at hSw)
     unfold oE13
     go_simp
    try simp only[oE13,Act.put,zA,zB,zC]
    refine wpAnyH_done (by kernel_rfl) ?_ _
    go_wp2
    go_ret2
    exact⟨b',t,c,zu HP,rfl,zu HZ,zu FR⟩
  ·unfold oE8
   go_simp
   refine hK.out _ _ trivial (fun hHeld=>?_)
   clear hK K
   try simp only[oE8,Act.put,zA,zB,zC]
   refine wpAnyH_ready (rs:=[3]) (by kernel_rfl) (by simp) ?_
   refine AllReadyH.cons (o:=oE3) rfl (fun K hK=>?_) AllReadyH.nil
   unfold oE3
   go_simp
   refine hK.out _ _ trivial (fun hHeld=>?_)
   clear hK K
   try simp only[oE3,Act.put,zA,zB,zC]
   refine tk 4 oE4 (.pointer (some ⟨w2.heap.size,1,none⟩)) rfl (by kernel_rfl) (fun _ _ _ h=>h) (by rfl) (fun w hSw=>?_) hHeld ?_
   ·(try dsimp only at hSw)
    unfold oE4
    go_simp
   try simp only[oE4,Act.put,zA,zB,zC]
   refine wpAnyH_ready (rs:=[5]) (by kernel_rfl) (by simp) ?_
   refine AllReadyH.cons (o:=oE5) rfl (fun K hK=>?_) AllReadyH.nil
   unfold oE5
   go_simp
   refine hK.out _ _ trivial (fun hHeld=>?_)
   clear hK K
   try simp only[oE5,Act.put,zA,zB,zC]
   refine wpAnyH_ready (rs:=[9]) (by kernel_rfl) (by simp) ?_
   refine AllReadyH.cons (o:=oE9) rfl (fun K hK=>?_) AllReadyH.nil
   unfold oE9
   go_simp
   refine(iEndOpen w3.drew z base g k kind way (zu OK) hk (zu KD) (zu D3d).v (zu D3d).o hg).mono ?_
   rintro e u4 ⟨b',t,c,hp,rfl,hz,fr⟩
   have HP:=zh (end_open (zu HK) (zu HST) hp)
   have HZ:=zh hz
   have FR:=zh ((Frt.below (g:=g) (h:=z.gt) (zu D3d).b).trans fr)
   clear hp hz fr
   go_wp2_with fail
   refine hK.out _ _ trivial (fun hHeld=>?_)
   clear hK K
   try simp only[oE9,Act.put,zA,zB,zC]
   refine tk 10 oE10 (.int .i64 t) rfl (by kernel_rfl) (fun _ _ _ h=>h) (by rfl) (fun w hSw=>?_) hHeld ?_
   ·(try dsimp only at hSw)
    unfold oE10
    go_simp
   try simp only[oE10,Act.put,zA,zB,zC]
   refine tk 11 oE11 (.int .i64 c) rfl (by kernel_rfl) (fun _ _ _ h=>h) (by rfl) (fun w hSw=>?_) hHeld ?_
   ·(try dsimp only at hSw)
    unfold oE11
    go_simp
   try simp only[oE11,Act.put,zA,zB,zC]
   refine tk 12 oE12 (.int .i64 t) rfl (by kernel_rfl) (fun _ _ _ h=>h) (by rfl) (fun w hSw=>?_) hHeld ?_
   ·(try dsimp only at hSw)
    unfold oE12
    go_simp
   try simp only[oE12,Act.put,zA,zB,zC]
   refine tk 13 oE13 (.int .i64 c) rfl (by kernel_rfl) (fun _ _ _ h=>h) (by rfl) (fun w hSw=>?_) hHeld ?_
   ·(try dsimp only at hSw)
    unfold oE13
    go_simp
   try simp only[oE13,Act.put,zA,zB,zC]
   refine wpAnyH_done (by kernel_rfl) ?_ _
   go_wp2
   go_ret2
   exact⟨b',t,c,zu HP,rfl,zu HZ,zu FR⟩
 ·have EE:=zh (end_ended (way:=way) (zu KD) (zu HK) (by rw[zu HST];decide))
  refine wp_region_held_drew (S:=(fun _=>True)) (by kernel_rfl) trivial (fun hHeld=>?_)
  refine tk 0 oE0 (.pointer (some ⟨z.gt,k*8,none⟩)) rfl (by kernel_rfl) (fun _ _ _ h=>h) (by rfl) (fun w hSw=>?_) hHeld ?_
  ·(try dsimp only at hSw)
   unfold oE0
   go_simp
  try simp only[oE0,Act.put,zA,zB,zC]
  refine tk 1 oE1 (.pointer (some ⟨z.gt,k*8,none⟩)) rfl (by kernel_rfl) (fun _ _ _ h=>h) (by rfl) (fun w hSw=>?_) hHeld ?_
  ·(try dsimp only at hSw)
   unfold oE1
   go_simp
  try simp only[oE1,Act.put,zA,zB,zC]
  refine tk 2 oE2 (.pointer (some ⟨z.gt,k*8+7,none⟩)) rfl (by kernel_rfl) (fun _ _ _ h=>h) (by rfl) (fun w hSw=>?_) hHeld ?_
  ·(try dsimp only at hSw)
   unfold oE2
   go_simp
  try simp only[oE2,Act.put,zA,zB,zC]
  refine tk 6 oE6 (.pointer (some ⟨g,0,none⟩)) rfl (by kernel_rfl) (fun _ _ _ h=>h) (by rfl) (fun w hSw=>?_) hHeld ?_
  ·(try dsimp only at hSw)
   unfold oE6
   go_simp
  try simp only[oE6,Act.put,zA,zB,zC]
  refine tk 7 oE7 (.pointer (some ⟨z.gt,k*8,none⟩)) rfl (by kernel_rfl) (fun _ _ _ h=>h) (by rfl) (fun w hSw=>?_) hHeld ?_
  ·(try dsimp only at hSw)
   unfold oE7
   go_simp
  try simp only[oE7,Act.put,zA,zB,zC]
  refine wpAnyH_ready (rs:=[3,8]) (by kernel_rfl) (by simp) ?_
  refine AllReadyH.cons (o:=oE3) rfl (fun K hK=>?_) (AllReadyH.cons (o:=oE8) rfl (fun K hK=>?_) AllReadyH.nil)
  ·unfold oE3
   go_simp
   refine hK.out _ _ trivial (fun hHeld=>?_)
   clear hK K
   try simp only[oE3,Act.put,zA,zB,zC]
   refine tk 4 oE4 (.pointer (some ⟨w2.heap.size,2,none⟩)) rfl (by kernel_rfl) (fun _ _ _ h=>h) (by rfl) (fun w hSw=>?_) hHeld ?_
   ·(try dsimp only at hSw)
    unfold oE4
    go_simp
   try simp only[oE4,Act.put,zA,zB,zC]
   refine wpAnyH_ready (rs:=[5,8]) (by kernel_rfl) (by simp) ?_
   refine AllReadyH.cons (o:=oE5) rfl (fun K hK=>?_) (AllReadyH.cons (o:=oE8) rfl (fun K hK=>?_) AllReadyH.nil)
   ·unfold oE5
    go_simp
    refine hK.out _ _ trivial (fun hHeld=>?_)
    clear hK K
    try simp only[oE5,Act.put,zA,zB,zC]
    refine wpAnyH_ready (rs:=[8]) (by kernel_rfl) (by simp) ?_
    refine AllReadyH.cons (o:=oE8) rfl (fun K hK=>?_) AllReadyH.nil
    unfold oE8
    go_simp
    refine hK.out _ _ trivial (fun hHeld=>?_)
    clear hK K
    try simp only[oE8,Act.put,zA,zB,zC]
    refine wpAnyH_ready (rs:=[9]) (by kernel_rfl) (by simp) ?_
    refine AllReadyH.cons (o:=oE9) rfl (fun K hK=>?_) AllReadyH.nil
    unfold oE9
    go_simp
    refine(iEndEnded w3.drew _ _ kind way).mono ?_
    rintro e u4 ⟨rfl,bb⟩
    have D4:=zh ((zu D3d).step bb)
    clear bb
    go_wp2_with fail
    refine hK.out _ _ trivial (fun hHeld=>?_)
    clear hK K
    try simp only[oE9,Act.put,zA,zB,zC]
    refine tk 10 oE10 (.int .i64 0) rfl (by kernel_rfl) (fun _ _ _ h=>h) (by rfl) (fun w hSw=>?_) hHeld ?_
    ·(try dsimp only at hSw)
     unfold oE10
     go_simp
    try simp only[oE10,Act.put,zA,zB,zC]
    refine tk 11 oE11 (.int .i64 6) rfl (by kernel_rfl) (fun _ _ _ h=>h) (by rfl) (fun w hSw=>?_) hHeld ?_
    ·(try dsimp only at hSw)
     unfold oE11
     go_simp
    try simp only[oE11,Act.put,zA,zB,zC]
    refine tk 12 oE12 (.int .i64 0) rfl (by kernel_rfl) (fun _ _ _ h=>h) (by rfl) (fun w hSw=>?_) hHeld ?_
    ·(try dsimp only at hSw)
     unfold oE12
     go_simp
    try simp only[oE12,Act.put,zA,zB,zC]
    refine tk 13 oE13 (.int .i64 6) rfl (by kernel_rfl) (fun _ _ _ h=>h) (by rfl) (fun w hSw=>?_) hHeld ?_
    ·(try dsimp only at hSw)
     unfold oE13
     go_simp
    try simp only[oE13,Act.put,zA,zB,zC]
    refine wpAnyH_done (by kernel_rfl) ?_ _
    go_wp2
    go_ret2
    exact⟨z.b,0,6,zu EE,rfl,.inr ⟨by omega,Var.any (zu D4).v⟩,Frt.below (zu D4).b⟩
   ·unfold oE8
    go_simp
    refine hK.out _ _ trivial (fun hHeld=>?_)
    clear hK K
    try simp only[oE8,Act.put,zA,zB,zC]
    refine wpAnyH_ready (rs:=[5]) (by kernel_rfl) (by simp) ?_
    refine AllReadyH.cons (o:=oE5) rfl (fun K hK=>?_) AllReadyH.nil
    unfold oE5
    go_simp
    refine hK.out _ _ trivial (fun hHeld=>?_)
    clear hK K
    try simp only[oE5,Act.put,zA,zB,zC]
    refine wpAnyH_ready (rs:=[9]) (by kernel_rfl) (by simp) ?_
    refine AllReadyH.cons (o:=oE9) rfl (fun K hK=>?_) AllReadyH.nil
    unfold oE9
    go_simp
    refine(iEndEnded w3.drew _ _ kind way).mono ?_
    rintro e u4 ⟨rfl,bb⟩
    have D4:=zh ((zu D3d).step bb)
    clear bb
    go_wp2_with fail
    refine hK.out _ _ trivial (fun hHeld=>?_)
    clear hK K
    try simp only[oE9,Act.put,zA,zB,zC]
    refine tk 10 oE10 (.int .i64 0) rfl (by kernel_rfl) (fun _ _ _ h=>h) (by rfl) (fun w hSw=>?_) hHeld ?_
    ·(try dsimp only at hSw)
     unfold oE10
     go_simp
    try simp only[oE10,Act.put,zA,zB,zC]
    refine tk 11 oE11 (.int .i64 6) rfl (by kernel_rfl) (fun _ _ _ h=>h) (by rfl) (fun w hSw=>?_) hHeld ?_
    ·(try dsimp only at hSw)
     unfold oE11
     go_simp
    try simp only[oE11,Act.put,zA,zB,zC]
    refine tk 12 oE12 (.int .i64 0) rfl (by kernel_rfl) (fun _ _ _ h=>h) (by rfl) (fun w hSw=>?_) hHeld ?_
    ·(try dsimp only at hSw)
     unfold oE12
     go_simp
    try simp only[oE12,Act.put,zA,zB,zC]
    refine tk 13 oE13 (.int .i64 6) rfl (by kernel_rfl) (fun _ _ _ h=>h) (by rfl) (fun w hSw=>?_) hHeld ?_
    ·(try dsimp only at hSw)
     unfold oE13
     go_simp
    try simp only[oE13,Act.put,zA,zB,zC]
    refine wpAnyH_done (by kernel_rfl) ?_ _
    go_wp2
    go_ret2
    exact⟨z.b,0,6,zu EE,rfl,.inr ⟨by omega,Var.any (zu D4).v⟩,Frt.below (zu D4).b⟩
  ·unfold oE8
   go_simp
   refine hK.out _ _ trivial (fun hHeld=>?_)
   clear hK K
   try simp only[oE8,Act.put,zA,zB,zC]
   refine wpAnyH_ready (rs:=[3]) (by kernel_rfl) (by simp) ?_
   refine AllReadyH.cons (o:=oE3) rfl (fun K hK=>?_) AllReadyH.nil
   unfold oE3
   go_simp
   refine hK.out _ _ trivial (fun hHeld=>?_)
   clear hK K
   try simp only[oE3,Act.put,zA,zB,zC]
   refine tk 4 oE4 (.pointer (some ⟨w2.heap.size,2,none⟩)) rfl (by kernel_rfl) (fun _ _ _ h=>h) (by rfl) (fun w hSw=>?_) hHeld ?_
   ·(try dsimp only at hSw)
    unfold oE4
    go_simp
   try simp only[oE4,Act.put,zA,zB,zC]
   refine wpAnyH_ready (rs:=[5]) (by kernel_rfl) (by simp) ?_
   refine AllReadyH.cons (o:=oE5) rfl (fun K hK=>?_) AllReadyH.nil
   unfold oE5
   go_simp
   refine hK.out _ _ trivial (fun hHeld=>?_)
   clear hK K
   try simp only[oE5,Act.put,zA,zB,zC]
   refine wpAnyH_ready (rs:=[9]) (by kernel_rfl) (by simp) ?_
   refine AllReadyH.cons (o:=oE9) rfl (fun K hK=>?_) AllReadyH.nil
   unfold oE9
   go_simp
   refine(iEndEnded w3.drew _ _ kind way).mono ?_
   rintro e u4 ⟨rfl,bb⟩
   have D4:=zh ((zu D3d).step bb)
   clear bb
   go_wp2_with fail
   refine hK.out _ _ trivial (fun hHeld=>?_)
   clear hK K
   try simp only[oE9,Act.put,zA,zB,zC]
   refine tk 10 oE10 (.int .i64 0) rfl (by kernel_rfl) (fun _ _ _ h=>h) (by rfl) (fun w hSw=>?_) hHeld ?_
   ·(try dsimp only at hSw)
    unfold oE10
    go_simp
   try simp only[oE10,Act.put,zA,zB,zC]
   refine tk 11 oE11 (.int .i64 6) rfl (by kernel_rfl) (fun _ _ _ h=>h) (by rfl) (fun w hSw=>?_) hHeld ?_
   ·(try dsimp only at hSw)
    unfold oE11
    go_simp
   try simp only[oE11,Act.put,zA,zB,zC]
   refine tk 12 oE12 (.int .i64 0) rfl (by kernel_rfl) (fun _ _ _ h=>h) (by rfl) (fun w hSw=>?_) hHeld ?_
   ·(try dsimp only at hSw)
    unfold oE12
    go_simp
   try simp only[oE12,Act.put,zA,zB,zC]
   refine tk 13 oE13 (.int .i64 6) rfl (by kernel_rfl) (fun _ _ _ h=>h) (by rfl) (fun w hSw=>?_) hHeld ?_
   ·(try dsimp only at hSw)
    unfold oE13
    go_simp
   try simp only[oE13,Act.put,zA,zB,zC]
   refine wpAnyH_done (by kernel_rfl) ?_ _
   go_wp2
   go_ret2
   exact⟨z.b,0,6,zu EE,rfl,.inr ⟨by omega,Var.any (zu D4).v⟩,Frt.below (zu D4).b⟩
 ·have EE:=zh (end_ended (way:=way) (zu KD) (zu HK) (by rw[zu HST];decide))
  refine wp_region_held_drew (S:=(fun _=>True)) (by kernel_rfl) trivial (fun hHeld=>?_)
  refine tk 0 oE0 (.pointer (some ⟨z.gt,k*8,none⟩)) rfl (by kernel_rfl) (fun _ _ _ h=>h) (by rfl) (fun w hSw=>?_) hHeld ?_
  ·(try dsimp only at hSw)
   unfold oE0
   go_simp
  try simp only[oE0,Act.put,zA,zB,zC]
  refine tk 1 oE1 (.pointer (some ⟨z.gt,k*8,none⟩)) rfl (by kernel_rfl) (fun _ _ _ h=>h) (by rfl) (fun w hSw=>?_) hHeld ?_
  ·(try dsimp only at hSw)
   unfold oE1
   go_simp
  try simp only[oE1,Act.put,zA,zB,zC]
  refine tk 2 oE2 (.pointer (some ⟨z.gt,k*8+7,none⟩)) rfl (by kernel_rfl) (fun _ _ _ h=>h) (by rfl) (fun w hSw=>?_) hHeld ?_
  ·(try dsimp only at hSw)
   unfold oE2
   go_simp
  try simp only[oE2,Act.put,zA,zB,zC]
  refine tk 6 oE6 (.pointer (some ⟨g,0,none⟩)) rfl (by kernel_rfl) (fun _ _ _ h=>h) (by rfl) (fun w hSw=>?_) hHeld ?_
  ·(try dsimp only at hSw)
   unfold oE6
   go_simp
  try simp only[oE6,Act.put,zA,zB,zC]
  refine tk 7 oE7 (.pointer (some ⟨z.gt,k*8,none⟩)) rfl (by kernel_rfl) (fun _ _ _ h=>h) (by rfl) (fun w hSw=>?_) hHeld ?_
  ·(try dsimp only at hSw)
   unfold oE7
   go_simp
  try simp only[oE7,Act.put,zA,zB,zC]
  refine wpAnyH_ready (rs:=[3,8]) (by kernel_rfl) (by simp) ?_
  refine AllReadyH.cons (o:=oE3) rfl (fun K hK=>?_) (AllReadyH.cons (o:=oE8) rfl (fun K hK=>?_) AllReadyH.nil)
  ·unfold oE3
   go_simp
   refine hK.out _ _ trivial (fun hHeld=>?_)
   clear hK K
   try simp only[oE3,Act.put,zA,zB,zC]
   refine tk 4 oE4 (.pointer (some ⟨w2.heap.size,3,none⟩)) rfl (by kernel_rfl) (fun _ _ _ h=>h) (by rfl) (fun w hSw=>?_) hHeld ?_
   ·(try dsimp only at hSw)
    unfold oE4
    go_simp
   try simp only[oE4,Act.put,zA,zB,zC]
   refine wpAnyH_ready (rs:=[5,8]) (by kernel_rfl) (by simp) ?_
   refine AllReadyH.cons (o:=oE5) rfl (fun K hK=>?_) (AllReadyH.cons (o:=oE8) rfl (fun K hK=>?_) AllReadyH.nil)
   ·unfold oE5
    go_simp
    refine hK.out _ _ trivial (fun hHeld=>?_)
    clear hK K
    try simp only[oE5,Act.put,zA,zB,zC]
    refine wpAnyH_ready (rs:=[8]) (by kernel_rfl) (by simp) ?_
    refine AllReadyH.cons (o:=oE8) rfl (fun K hK=>?_) AllReadyH.nil
    unfold oE8
    go_simp
    refine hK.out _ _ trivial (fun hHeld=>?_)
    clear hK K
    try simp only[oE8,Act.put,zA,zB,zC]
    refine wpAnyH_ready (rs:=[9]) (by kernel_rfl) (by simp) ?_
    refine AllReadyH.cons (o:=oE9) rfl (fun K hK=>?_) AllReadyH.nil
    unfold oE9
    go_simp
    refine(iEndEnded w3.drew _ _ kind way).mono ?_
    rintro e u4 ⟨rfl,bb⟩
    have D4:=zh ((zu D3d).step bb)
    clear bb
    go_wp2_with fail
    refine hK.out _ _ trivial (fun hHeld=>?_)
    clear hK K
    try simp only[oE9,Act.put,zA,zB,zC]
    refine tk 10 oE10 (.int .i64 0) rfl (by kernel_rfl) (fun _ _ _ h=>h) (by rfl) (fun w hSw=>?_) hHeld ?_
    ·(try dsimp only at hSw)
     unfold oE10
     go_simp
    try simp only[oE10,Act.put,zA,zB,zC]
    refine tk 11 oE11 (.int .i64 6) rfl (by kernel_rfl) (fun _ _ _ h=>h) (by rfl) (fun w hSw=>?_) hHeld ?_
    ·(try dsimp only at hSw)
     unfold oE11
     go_simp
    try simp only[oE11,Act.put,zA,zB,zC]
    refine tk 12 oE12 (.int .i64 0) rfl (by kernel_rfl) (fun _ _ _ h=>h) (by rfl) (fun w hSw=>?_) hHeld ?_
    ·(try dsimp only at hSw)
     unfold oE12
     go_simp
    try simp only[oE12,Act.put,zA,zB,zC]
    refine tk 13 oE13 (.int .i64 6) rfl (by kernel_rfl) (fun _ _ _ h=>h) (by rfl) (fun w hSw=>?_) hHeld ?_
    ·(try dsimp only at hSw)
     unfold oE13
     go_simp
    try simp only[oE13,Act.put,zA,zB,zC]
    refine wpAnyH_done (by kernel_rfl) ?_ _
    go_wp2
    go_ret2
    exact⟨z.b,0,6,zu EE,rfl,.inr ⟨by omega,Var.any (zu D4).v⟩,Frt.below (zu D4).b⟩
   ·unfold oE8
    go_simp
    refine hK.out _ _ trivial (fun hHeld=>?_)
    clear hK K
    try simp only[oE8,Act.put,zA,zB,zC]
    refine wpAnyH_ready (rs:=[5]) (by kernel_rfl) (by simp) ?_
    refine AllReadyH.cons (o:=oE5) rfl (fun K hK=>?_) AllReadyH.nil
    unfold oE5
    go_simp
    refine hK.out _ _ trivial (fun hHeld=>?_)
    clear hK K
    try simp only[oE5,Act.put,zA,zB,zC]
    refine wpAnyH_ready (rs:=[9]) (by kernel_rfl) (by simp) ?_
    refine AllReadyH.cons (o:=oE9) rfl (fun K hK=>?_) AllReadyH.nil
    unfold oE9
    go_simp
    refine(iEndEnded w3.drew _ _ kind way).mono ?_
    rintro e u4 ⟨rfl,bb⟩
    have D4:=zh ((zu D3d).step bb)
    clear bb
    go_wp2_with fail
    refine hK.out _ _ trivial (fun hHeld=>?_)
    clear hK K
    try simp only[oE9,Act.put,zA,zB,zC]
    refine tk 10 oE10 (.int .i64 0) rfl (by kernel_rfl) (fun _ _ _ h=>h) (by rfl) (fun w hSw=>?_) hHeld ?_
    ·(try dsimp only at hSw)
     unfold oE10
     go_simp
    try simp only[oE10,Act.put,zA,zB,zC]
    refine tk 11 oE11 (.int .i64 6) rfl (by kernel_rfl) (fun _ _ _ h=>h) (by rfl) (fun w hSw=>?_) hHeld ?_
    ·(try dsimp only at hSw)
     unfold oE11
     go_simp
    try simp only[oE11,Act.put,zA,zB,zC]
    refine tk 12 oE12 (.int .i64 0) rfl (by kernel_rfl) (fun _ _ _ h=>h) (by rfl) (fun w hSw=>?_) hHeld ?_
    ·(try dsimp only at hSw)
     unfold oE12
     go_simp
    try simp only[oE12,Act.put,zA,zB,zC]
    refine tk 13 oE13 (.int .i64 6) rfl (by kernel_rfl) (fun _ _ _ h=>h) (by rfl) (fun w hSw=>?_) hHeld ?_
    ·(try dsimp only at hSw)
     unfold oE13
     go_simp
    try simp only[oE13,Act.put,zA,zB,zC]
    refine wpAnyH_done (by kernel_rfl) ?_ _
    go_wp2
    go_ret2
    exact⟨z.b,0,6,zu EE,rfl,.inr ⟨by omega,Var.any (zu D4).v⟩,Frt.below (zu D4).b⟩
  ·unfold oE8
   go_simp
   refine hK.out _ _ trivial (fun hHeld=>?_)
   clear hK K
   try simp only[oE8,Act.put,zA,zB,zC]
   refine wpAnyH_ready (rs:=[3]) (by kernel_rfl) (by simp) ?_
   refine AllReadyH.cons (o:=oE3) rfl (fun K hK=>?_) AllReadyH.nil
   unfold oE3
   go_simp
   refine hK.out _ _ trivial (fun hHeld=>?_)
   clear hK K
   try simp only[oE3,Act.put,zA,zB,zC]
   refine tk 4 oE4 (.pointer (some ⟨w2.heap.size,3,none⟩)) rfl (by kernel_rfl) (fun _ _ _ h=>h) (by rfl) (fun w hSw=>?_) hHeld ?_
   ·(try dsimp only at hSw)
    unfold oE4
    go_simp
   try simp only[oE4,Act.put,zA,zB,zC]
   refine wpAnyH_ready (rs:=[5]) (by kernel_rfl) (by simp) ?_
   refine AllReadyH.cons (o:=oE5) rfl (fun K hK=>?_) AllReadyH.nil
   unfold oE5
   go_simp
   refine hK.out _ _ trivial (fun hHeld=>?_)
   clear hK K
   try simp only[oE5,Act.put,zA,zB,zC]
   refine wpAnyH_ready (rs:=[9]) (by kernel_rfl) (by simp) ?_
   refine AllReadyH.cons (o:=oE9) rfl (fun K hK=>?_) AllReadyH.nil
   unfold oE9
   go_simp
   refine(iEndEnded w3.drew _ _ kind way).mono ?_
   rintro e u4 ⟨rfl,bb⟩
   have D4:=zh ((zu D3d).step bb)
   clear bb
   go_wp2_with fail
   refine hK.out _ _ trivial (fun hHeld=>?_)
   clear hK K
   try simp only[oE9,Act.put,zA,zB,zC]
   refine tk 10 oE10 (.int .i64 0) rfl (by kernel_rfl) (fun _ _ _ h=>h) (by rfl) (fun w hSw=>?_) hHeld ?_
   ·(try dsimp only at hSw)
    unfold oE10
    go_simp
   try simp only[oE10,Act.put,zA,zB,zC]
   refine tk 11 oE11 (.int .i64 6) rfl (by kernel_rfl) (fun _ _ _ h=>h) (by rfl) (fun w hSw=>?_) hHeld ?_
   ·(try dsimp only at hSw)
    unfold oE11
    go_simp
   try simp only[oE11,Act.put,zA,zB,zC]
   refine tk 12 oE12 (.int .i64 0) rfl (by kernel_rfl) (fun _ _ _ h=>h) (by rfl) (fun w hSw=>?_) hHeld ?_
   ·(try dsimp only at hSw)
    unfold oE12
    go_simp
   try simp only[oE12,Act.put,zA,zB,zC]
   refine tk 13 oE13 (.int .i64 6) rfl (by kernel_rfl) (fun _ _ _ h=>h) (by rfl) (fun w hSw=>?_) hHeld ?_
   ·(try dsimp only at hSw)
    unfold oE13
    go_simp
   try simp only[oE13,Act.put,zA,zB,zC]
   refine wpAnyH_done (by kernel_rfl) ?_ _
   go_wp2
   go_ret2
   exact⟨z.b,0,6,zu EE,rfl,.inr ⟨by omega,Var.any (zu D4).v⟩,Frt.below (zu D4).b⟩
theorem settle_done{b b':Bk}{no way t:Int}(h:EndP b no 1 way b' t 0):IsSettle b no way b' t 0:=by
 rcases h with⟨e,_⟩|⟨_,t',h,e⟩
 ·exact absurd e (by decide)
 ·rw[e rfl]
  exact h
theorem settle_not{b b':Bk}{no way t c:Int}(h:EndP b no 1 way b' t c)(hc:c≠0):IsSettle b no way b 0 c:=by
 rcases h with⟨e,_⟩|⟨_,t',h,_⟩
 ·exact absurd e (by decide)
 ·rcases h with⟨h,rfl,rfl,rfl⟩|⟨k,h,⟨h1,rfl,rfl,rfl⟩|⟨h1,b1,c1,hp,⟨h2,rfl,rfl,rfl⟩|⟨h2,b2,k2,c2,ht,⟨h3,rfl,rfl,rfl⟩|⟨h3,b3,c3,ho,⟨h4,rfl,rfl,rfl⟩|⟨h4,rfl,rfl,rfl⟩⟩⟩⟩⟩
  ·exact .inl ⟨h,rfl,rfl,rfl⟩
  ·exact .inr ⟨k,h,.inl ⟨h1,rfl,rfl,rfl⟩⟩
  ·exact .inr ⟨k,h,.inr ⟨h1,b1,_,hp,.inl ⟨h2,rfl,rfl,rfl⟩⟩⟩
  ·exact .inr ⟨k,h,.inr ⟨h1,b1,c1,hp,.inr ⟨h2,b2,k2,_,ht,.inl ⟨h3,rfl,rfl,rfl⟩⟩⟩⟩
  ·exact .inr ⟨k,h,.inr ⟨h1,b1,c1,hp,.inr ⟨h2,b2,k2,c2,ht,.inr ⟨h3,b3,_,ho,.inl ⟨h4,rfl,rfl,rfl⟩⟩⟩⟩⟩
  ·exact absurd rfl hc
end IEnd
namespace TradesOpenI
open BMem Bks ILists IBalsFit Ans Trd
open Lots (Says says_of NoOk)
open Tup8 (T8 el8)
open STell (IsOpens)
theorem iTradesOpen(w:World)(x:Bx)(lo hi:Int)(h:Rd w x):
  Calls Tryz.prog 60 #[.agg #[.slice (some ⟨x.ga,0,none⟩) x.b.ac.length x.ca,.slice (some ⟨x.gi,0,none⟩) x.b.ic.length x.ci,.slice (some ⟨x.gb,0,none⟩) x.b.bs.length x.cb,.slice (some ⟨x.gl,0,none⟩) x.b.ls.length x.cl,.slice (some ⟨x.gt,0,none⟩) x.b.ts.length x.ct,.int .i64 x.b.lot],.int .i64 lo,.int .i64 hi] w fun e w'=>∃(xs:List Int) (g c:Nat),IsOpens x.b lo hi xs∧xs.length≤x.b.ts.length∧e= .returned (.slice (some ⟨g,0,none⟩) xs.length c)∧Ints.Own w' w.heap.size g xs.length c xs∧Below w.heap.size w w':=by
 obtain⟨b0,h0⟩:=says_of (Ok x.b)
 have H0:=zh h0
 have nt:=h.nt
 have S0R:=zh h
 have S0:=zh ((St.start h 40).step (one_more (w.alloc (.cells #[.slice (some ⟨x.ga,0,none⟩) x.b.ac.length x.ca,.slice (some ⟨x.gi,0,none⟩) x.b.ic.length x.ci,.slice (some ⟨x.gb,0,none⟩) x.b.bs.length x.cb,.slice (some ⟨x.gl,0,none⟩) x.b.ls.length x.cl,.slice (some ⟨x.gt,0,none⟩) x.b.ts.length x.ct,.int .i64 x.b.lot] 40)) (.cells #[] 3)))
 have O0:=zh (Shorts.lit0 (w.alloc (.cells #[.slice (some ⟨x.ga,0,none⟩) x.b.ac.length x.ca,.slice (some ⟨x.gi,0,none⟩) x.b.ic.length x.ci,.slice (some ⟨x.gb,0,none⟩) x.b.bs.length x.cb,.slice (some ⟨x.gl,0,none⟩) x.b.ls.length x.cl,.slice (some ⟨x.gt,0,none⟩) x.b.ts.length x.ct,.int .i64 x.b.lot] 40)) (w.heap.size+1) (g:=w.heap.size+1) (by simp) (by simp))
 clear h0 h
 go_enter Tryz.func60,Tryz.ntmps60
 go_wp2_with fail
 generalize (w.alloc (.cells #[.slice (some ⟨x.ga,0,none⟩) x.b.ac.length x.ca,.slice (some ⟨x.gi,0,none⟩) x.b.ic.length x.ci,.slice (some ⟨x.gb,0,none⟩) x.b.bs.length x.cb,.slice (some ⟨x.gl,0,none⟩) x.b.ls.length x.cl,.slice (some ⟨x.gt,0,none⟩) x.b.ts.length x.ct,.int .i64 x.b.lot] 40)).alloc (.cells #[] 3)=w0 at *
 refine(IBooksOk.iBooksOk _ x b0 (zu S0).r (zu H0)).mono ?_
 rintro e w1 ⟨rfl,bb⟩
 have S1:=zh ((zu S0).step bb)
 have O1:=zh ((zu O0).below bb (zu O0).lt.2)
 clear bb S0 O0
 obtain⟨c0,c1,c2,c3,c4,c5⟩:=(zu S1).c
 cases b0
 ·have N:=zh (show IsOpens x.b lo hi [] from .inr ⟨(zu H0).no,rfl⟩)
  have B1:=zh (zu S1).b
  go_wp2
  go_ret
  exact⟨[],_,_,zu N,by simp,rfl,(zu O1).mono (by omega),zu B1⟩
 have YES:=zh (zu H0).yes
 clear H0
 go_wp2
 clear c0 c1 c2 c3 c4 c5
 go_loopw [7,18] (fun l j wr=>∃(p:List Int) (g1 c1 k:Nat),l= .slice (some ⟨g1,0,none⟩) p.length c1∧j= .int .i64 k∧k≤x.b.ts.length∧p.length≤k∧Hid (p=openT lo hi (x.b.ts.take k))∧Hid (Ints.Own wr (w.heap.size+1) g1 p.length c1 p)∧Hid (St w wr x)) (fun _ j _=>x.b.ts.length-(intOf j).toNat)
 case atStart=>exact⟨[],w.heap.size+1,0,0,rfl,rfl,by omega,by simp,zh rfl,O1,S1⟩
 case round=>
  clear O1 S1
  obtain⟨p,g1,k1,k,rfl,rfl,hk,pl,HP,O2,S2⟩:=hrel
  obtain⟨c0,c1,c2,c3,c4,c5⟩:=(zu S2).c
  by_cases t:k<x.b.ts.length
  ·obtain⟨d0,d1,d2,d3,d4,d5,d6,d7⟩:=((zu S2).r.rt k t)
   have NP:=zh (openT_next (ps:=x.b.ts) (k:=k) lo hi t)
   rw[←zu HP] at NP
   have sz:=(zu S2).s
   have S3:=zh ((zu S2).step (one_more wr (.cells #[.int .i64 (el8 x.b.ts k).1,.int .i64 (el8 x.b.ts k).2.1,.int .i64 (el8 x.b.ts k).2.2.1,.int .i64 (el8 x.b.ts k).2.2.2.1,.int .i64 (el8 x.b.ts k).2.2.2.2.1,.int .i64 (el8 x.b.ts k).2.2.2.2.2.1,.int .i64 (el8 x.b.ts k).2.2.2.2.2.2.1,.int .i64 (el8 x.b.ts k).2.2.2.2.2.2.2] 64)))
   have O3:=zh (Shorts.own_alloc (zu O2) (.cells #[.int .i64 (el8 x.b.ts k).1,.int .i64 (el8 x.b.ts k).2.1,.int .i64 (el8 x.b.ts k).2.2.1,.int .i64 (el8 x.b.ts k).2.2.2.1,.int .i64 (el8 x.b.ts k).2.2.2.2.1,.int .i64 (el8 x.b.ts k).2.2.2.2.2.1,.int .i64 (el8 x.b.ts k).2.2.2.2.2.2.1,.int .i64 (el8 x.b.ts k).2.2.2.2.2.2.2] 64))
   generalize el8 x.b.ts k=q at *
   obtain⟨q0,q1,q2,q3,q4,q5,q6,q7⟩:=q
   clear HP
   by_cases own:q7=1∧lo≤q0∧q0≤hi
   ·have NP1:Hid (openT lo hi (x.b.ts.take (k+1))=p++[q0]):=zh (by rw[zu NP,if_pos own])
    have ob:(q7==1)=true:=by simpa using own.1
    have ol:=own.2.1
    have oh:=own.2.2
    clear NP own
    have bs:=(zu S3).b.size
    have s3:=(zu S3).s
    go_wp2_with (first|(at_builtin;refine Shorts.wp_appI _ rfl _ _ rfl (w.heap.size+1) g1 p.length k1 p (wr.heap.size+1) q0 rfl rfl (Shorts.own_alloc (zu O3) _) (by simp) (by omega) (by simp;omega) ?_)|go_in)
    intro g5 c5 w5 o5 gr5 loc5
    have O5:=zh o5
    have S5:=zh (show St w w5 x from by
     have S4:=(zu S3).step (one_more _ (.cells #[.int .i64 q0] 3))
     have g1l:=(zu O3).lt.1
     have n0:some w.heap.size≠some g1:=fun e=>by injection e;omega
     exact⟨(zu S0R).below (S4.b.grown gr5 S4.b.size (fun j e=>by injection e;omega)),⟨gr5.cell S4.c.c0 n0,gr5.cell S4.c.c1 n0,gr5.cell S4.c.c2 n0,gr5.cell S4.c.c3 n0,gr5.cell S4.c.c4 n0,gr5.cell S4.c.c5 n0⟩,S4.b.grown gr5 S4.b.size (fun j e=>by injection e;omega),Nat.lt_of_lt_of_le S4.s gr5.size⟩)
    clear o5 gr5 loc5
    go_wp2
    go_roundw
    case rel=>exact⟨p++[q0],g5,c5,k+1,by rw[show(p++[q0]).length=p.length+1 by simp],by go_num,by omega,by simp;omega,zh (zu NP1).symm,zh (by rw[show(p++[q0]).length=p.length+1 by simp];exact zu O5),S5⟩
    case measure=>simp[intOf];omega
   ·have NP1:Hid (openT lo hi (x.b.ts.take (k+1))=p):=zh (by rw[zu NP,if_neg own,List.append_nil])
    clear NP
    by_cases o7:q7=1
    ·by_cases ol:lo≤q0
     ·have oh:¬q0≤hi:=fun e=>own ⟨o7,ol,e⟩
      have ob:(q7==1)=true:=by simpa using o7
      clear own o7
      go_wp2
      go_roundw
      case rel=>exact⟨p,g1,k1,k+1,rfl,by go_num,by omega,by omega,zh (zu NP1).symm,O3,S3⟩
      case measure=>simp[intOf];omega
     ·have ob:(q7==1)=true:=by simpa using o7
      clear own o7
      go_wp2
      go_roundw
      case rel=>exact⟨p,g1,k1,k+1,rfl,by go_num,by omega,by omega,zh (zu NP1).symm,O3,S3⟩
      case measure=>simp[intOf];omega
    ·have ob:(q7==1)=false:=by simpa using o7
     clear own o7
     go_wp2
     go_roundw
     case rel=>exact⟨p,g1,k1,k+1,rfl,by go_num,by omega,by omega,zh (zu NP1).symm,O3,S3⟩
     case measure=>simp[intOf];omega
  ·obtain rfl:k=x.b.ts.length:=by omega
   have N:=zh (show IsOpens x.b lo hi p from .inl ⟨zu YES,by rw[zu HP,List.take_of_length_le (by omega)]⟩)
   have B2:=zh (zu S2).b
   clear HP
   go_wp2
   go_ret
   exact⟨p,g1,k1,zu N,by omega,rfl,(zu O2).mono (by omega),zu B2⟩
end TradesOpenI
namespace IssueTellI
open BMem Bks ILists BHelp Ans ICopied ICmdB IHave
open SIssue (six_alloc ow_six_alloc box_six_alloc to_wb off_box)
open IBalsFit (one_more all_one)
open ITrade (at_new)
open Lots (Says says_of NoOk)
theorem says_and{a b:Bool}{p q:Prop}(h:Says a p)(k:Says b q):Says (a&&b) (p∧q):=by
 cases a<;>cases b
 ·exact⟨fun e=>Bool.noConfusion e,fun r=>absurd r.1 h.no⟩
 ·exact⟨fun e=>Bool.noConfusion e,fun r=>absurd r.1 h.no⟩
 ·exact⟨fun e=>Bool.noConfusion e,fun r=>absurd r.2 k.no⟩
 ·exact⟨fun _=>⟨h.yes,k.yes⟩,fun _=>rfl⟩
structure TW(w W:World)(x:Bx)(fa fb fi fq fk:Int):Prop where
 r:Rd W x
 c:Cl W w.heap.size x
 n1:W.cell? ⟨w.heap.size+1,0,none⟩=some (.int .i64 fa)
 n2:W.cell? ⟨w.heap.size+1+1,0,none⟩=some (.int .i64 fb)
 n3:W.cell? ⟨w.heap.size+1+1+1,0,none⟩=some (.int .i64 fi)
 n4:W.cell? ⟨w.heap.size+1+1+1+1,0,none⟩=some (.int .i64 fq)
 n5:W.cell? ⟨w.heap.size+1+1+1+1+1,0,none⟩=some (.int .i64 fk)
 v:Box W w.heap.size (w.heap.size+1+1+1+1+1+1) (.slice none 0 0) (.slice none 0 0) (.slice none 0 0) (.slice none 0 0) (.slice none 0 0) (.int .i64 0)
 b:Below w.heap.size w W
theorem TW.step{w W W':World}{x:Bx}{fa fb fi fq fk:Int}(h:TW w W x fa fb fi fq fk)(k:Below W.heap.size W W'):TW w W' x fa fb fi fq fk:=by
 have l:=h.v.lt
 exact⟨h.r.below k,h.c.below k (by omega),(k.cell (p:=⟨w.heap.size+1,0,none⟩) (by simp<;>omega)).trans h.n1,(k.cell (p:=⟨w.heap.size+1+1,0,none⟩) (by simp<;>omega)).trans h.n2,(k.cell (p:=⟨w.heap.size+1+1+1,0,none⟩) (by simp<;>omega)).trans h.n3,(k.cell (p:=⟨w.heap.size+1+1+1+1,0,none⟩) (by simp<;>omega)).trans h.n4,(k.cell (p:=⟨w.heap.size+1+1+1+1+1,0,none⟩) (by simp<;>omega)).trans h.n5,h.v.below k (by omega),h.b.trans (k.mono h.b.size)⟩
theorem more{w:World}{p:Addr}{v:Value}(h:w.cell? p=some v)(hp:p.block<w.heap.size)(o:Obj):(w.alloc o).cell? p=some v:=((one_more _ _).cell hp).trans h
theorem TW.start{w:World}{x:Bx}{fa fb fi fq fk:Int}(h:Rd w x):TW w (((((((w.alloc (.cells #[.slice (some ⟨x.ga,0,none⟩) x.b.ac.length x.ca,.slice (some ⟨x.gi,0,none⟩) x.b.ic.length x.ci,.slice (some ⟨x.gb,0,none⟩) x.b.bs.length x.cb,.slice (some ⟨x.gl,0,none⟩) x.b.ls.length x.cl,.slice (some ⟨x.gt,0,none⟩) x.b.ts.length x.ct,.int .i64 x.b.lot] 40)).alloc (.cells #[.int .i64 fa] 3)).alloc (.cells #[.int .i64 fb] 3)).alloc (.cells #[.int .i64 fi] 3)).alloc (.cells #[.int .i64 fq] 3)).alloc (.cells #[.int .i64 fk] 3)).alloc (.cells #[.slice none 0 0,.slice none 0 0,.slice none 0 0,.slice none 0 0,.slice none 0 0,.int .i64 0] 40)) x fa fb fi fq fk:=by
 have b:Below (w.heap.size+1) (w.alloc (.cells #[.slice (some ⟨x.ga,0,none⟩) x.b.ac.length x.ca,.slice (some ⟨x.gi,0,none⟩) x.b.ic.length x.ci,.slice (some ⟨x.gb,0,none⟩) x.b.bs.length x.cb,.slice (some ⟨x.gl,0,none⟩) x.b.ls.length x.cl,.slice (some ⟨x.gt,0,none⟩) x.b.ts.length x.ct,.int .i64 x.b.lot] 40)) (((((((w.alloc (.cells #[.slice (some ⟨x.ga,0,none⟩) x.b.ac.length x.ca,.slice (some ⟨x.gi,0,none⟩) x.b.ic.length x.ci,.slice (some ⟨x.gb,0,none⟩) x.b.bs.length x.cb,.slice (some ⟨x.gl,0,none⟩) x.b.ls.length x.cl,.slice (some ⟨x.gt,0,none⟩) x.b.ts.length x.ct,.int .i64 x.b.lot] 40)).alloc (.cells #[.int .i64 fa] 3)).alloc (.cells #[.int .i64 fb] 3)).alloc (.cells #[.int .i64 fi] 3)).alloc (.cells #[.int .i64 fq] 3)).alloc (.cells #[.int .i64 fk] 3)).alloc (.cells #[.slice none 0 0,.slice none 0 0,.slice none 0 0,.slice none 0 0,.slice none 0 0,.int .i64 0] 40)):=
  ((((((Below.refl _ _).alloc (by simp) _).alloc (by simp) _).alloc (by simp<;>omega) _).alloc (by simp<;>omega) _).alloc (by simp<;>omega) _).alloc (by simp<;>omega) _
 refine⟨h.below (((Below.refl w.heap.size w).alloc (Nat.le_refl _) _).trans (b.mono (by omega))),(boxed w x 40).below b (by omega),?_,?_,?_,?_,?_,Box.made _ _ _ _ _ _ (by simp<;>omega) (by simp),((Below.refl w.heap.size w).alloc (Nat.le_refl _) _).trans (b.mono (by omega))⟩
 ·exact more (more (more (more (more (cell_new _ _ _ (by simp)) (by simp) _) (by simp<;>omega) _) (by simp<;>omega) _) (by simp<;>omega) _) (by simp<;>omega) _
 ·exact more (more (more (more (cell_new _ _ _ (by simp)) (by simp) _) (by simp<;>omega) _) (by simp<;>omega) _) (by simp<;>omega) _
 ·exact more (more (more (cell_new _ _ _ (by simp)) (by simp) _) (by simp<;>omega) _) (by simp<;>omega) _
 ·exact more (more (cell_new _ _ _ (by simp)) (by simp) _) (by simp<;>omega) _
 ·exact more (cell_new _ _ _ (by simp)) (by simp) _
end IssueTellI
end Go.Proofs.YtpkgkekonhgonaaGreatDoor
