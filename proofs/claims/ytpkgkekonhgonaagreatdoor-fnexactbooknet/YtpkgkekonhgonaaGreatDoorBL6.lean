/- Texts of one proof, one behind the other: BZero, LawQ, Copy, SCopy, Ans, Trd, AnyInv, ICopied, ICmdB, ICmd, ICmdW, ICmdL, IPlace8. -/
import Derived.Test.YtpkgkekonhgonaaGreatDoorRows
import Derived.Test.YtpkgkekonhgonaaGreatDoorCards
import Derived.Test.YtpkgkekonhgonaaGreatDoorTie
import Derived.Test.YtpkgkekonhgonaaGreatDoorBA1
import Derived.Test.YtpkgkekonhgonaaGreatDoorBA2
import Derived.Test.YtpkgkekonhgonaaGreatDoorBL3
import Derived.Test.YtpkgkekonhgonaaGreatDoorBL4
import Derived.Test.YtpkgkekonhgonaaGreatDoorBL5
import Derived.WalkKit
import Derived.ProofKit
import Derived.Below
import Derived.Maps.AppendAt
import Derived.Orders
import Derived.Defers
import Derived.Deep.LoopGhost
set_option linter.unusedVariables false
set_option linter.unusedSimpArgs false
open Go.ChangeShapes Go.WideShapes Go.ChangeAt Go.RowKit
set_option maxRecDepth 100000
set_option maxHeartbeats 32000000
namespace Go.Proofs.YtpkgkekonhgonaaGreatDoor
namespace BZero
theorem zh{p:Prop}(h:p):Hid p:=h
theorem zu{p:Prop}(h:Hid p):p:=h
theorem eqAccount(w:World):Calls Tryz.prog 40 #[.slice none 0 0,.slice none 0 0] w fun e w'=>e= .returned (.bool true)∧w'=w:=by
 go_enter Tryz.func40,Tryz.ntmps40
 go_wp2
 go_loopw [5] (fun j wr=>j= .int .i64 0∧wr=w) (fun _ _=>0)
 case atStart=>exact⟨rfl,rfl⟩
 case round=>
  obtain⟨rfl,rfl⟩:=hrel
  go_wp2
  go_ret
  exact⟨rfl,rfl⟩
theorem markAccount(w:World)(s:Int):Calls Tryz.prog 45 #[.slice none 0 0,.int .i64 s] w fun e w'=>e= .returned (.int .i64 s)∧w'=w:=by
 go_enter Tryz.func45,Tryz.ntmps45
 go_wp2
 go_loopw [1,5] (fun m j wr=>m= .int .i64 s∧j= .int .i64 0∧wr=w) (fun _ _ _=>0)
 case atStart=>exact⟨rfl,rfl,rfl⟩
 case round=>
  obtain⟨rfl,rfl,rfl⟩:=hrel
  go_wp2
  go_ret
  exact⟨rfl,rfl⟩
theorem heldAccount(w:World)(s:Int):Calls Tryz.prog 62 #[.slice none 0 0,.int .i64 s] w fun e w'=>e= .returned (.int .i64 s)∧w'=w:=by
 go_enter Tryz.func62,Tryz.ntmps62
 go_wp2
 go_loopw [1,5] (fun m j wr=>m= .int .i64 s∧j= .int .i64 0∧wr=w) (fun _ _ _=>0)
 case atStart=>exact⟨rfl,rfl,rfl⟩
 case round=>
  obtain⟨rfl,rfl,rfl⟩:=hrel
  go_wp2
  go_ret
  exact⟨rfl,rfl⟩
theorem eqInstr(w:World):Calls Tryz.prog 41 #[.slice none 0 0,.slice none 0 0] w fun e w'=>e= .returned (.bool true)∧w'=w:=by
 go_enter Tryz.func41,Tryz.ntmps41
 go_wp2
 go_loopw [5] (fun j wr=>j= .int .i64 0∧wr=w) (fun _ _=>0)
 case atStart=>exact⟨rfl,rfl⟩
 case round=>
  obtain⟨rfl,rfl⟩:=hrel
  go_wp2
  go_ret
  exact⟨rfl,rfl⟩
theorem markInstr(w:World)(s:Int):Calls Tryz.prog 46 #[.slice none 0 0,.int .i64 s] w fun e w'=>e= .returned (.int .i64 s)∧w'=w:=by
 go_enter Tryz.func46,Tryz.ntmps46
 go_wp2
 go_loopw [1,5] (fun m j wr=>m= .int .i64 s∧j= .int .i64 0∧wr=w) (fun _ _ _=>0)
 case atStart=>exact⟨rfl,rfl,rfl⟩
 case round=>
  obtain⟨rfl,rfl,rfl⟩:=hrel
  go_wp2
  go_ret
  exact⟨rfl,rfl⟩
theorem heldInstr(w:World)(s:Int):Calls Tryz.prog 63 #[.slice none 0 0,.int .i64 s] w fun e w'=>e= .returned (.int .i64 s)∧w'=w:=by
 go_enter Tryz.func63,Tryz.ntmps63
 go_wp2
 go_loopw [1,5] (fun m j wr=>m= .int .i64 s∧j= .int .i64 0∧wr=w) (fun _ _ _=>0)
 case atStart=>exact⟨rfl,rfl,rfl⟩
 case round=>
  obtain⟨rfl,rfl,rfl⟩:=hrel
  go_wp2
  go_ret
  exact⟨rfl,rfl⟩
theorem eqBal(w:World):Calls Tryz.prog 42 #[.slice none 0 0,.slice none 0 0] w fun e w'=>e= .returned (.bool true)∧w'=w:=by
 go_enter Tryz.func42,Tryz.ntmps42
 go_wp2
 go_loopw [5] (fun j wr=>j= .int .i64 0∧wr=w) (fun _ _=>0)
 case atStart=>exact⟨rfl,rfl⟩
 case round=>
  obtain⟨rfl,rfl⟩:=hrel
  go_wp2
  go_ret
  exact⟨rfl,rfl⟩
theorem markBal(w:World)(s:Int):Calls Tryz.prog 47 #[.slice none 0 0,.int .i64 s] w fun e w'=>e= .returned (.int .i64 s)∧w'=w:=by
 go_enter Tryz.func47,Tryz.ntmps47
 go_wp2
 go_loopw [1,5] (fun m j wr=>m= .int .i64 s∧j= .int .i64 0∧wr=w) (fun _ _ _=>0)
 case atStart=>exact⟨rfl,rfl,rfl⟩
 case round=>
  obtain⟨rfl,rfl,rfl⟩:=hrel
  go_wp2
  go_ret
  exact⟨rfl,rfl⟩
theorem heldBal(w:World)(s:Int):Calls Tryz.prog 64 #[.slice none 0 0,.int .i64 s] w fun e w'=>e= .returned (.int .i64 s)∧w'=w:=by
 go_enter Tryz.func64,Tryz.ntmps64
 go_wp2
 go_loopw [1,5] (fun m j wr=>m= .int .i64 s∧j= .int .i64 0∧wr=w) (fun _ _ _=>0)
 case atStart=>exact⟨rfl,rfl,rfl⟩
 case round=>
  obtain⟨rfl,rfl,rfl⟩:=hrel
  go_wp2
  go_ret
  exact⟨rfl,rfl⟩
theorem eqLot(w:World):Calls Tryz.prog 43 #[.slice none 0 0,.slice none 0 0] w fun e w'=>e= .returned (.bool true)∧w'=w:=by
 go_enter Tryz.func43,Tryz.ntmps43
 go_wp2
 go_loopw [5] (fun j wr=>j= .int .i64 0∧wr=w) (fun _ _=>0)
 case atStart=>exact⟨rfl,rfl⟩
 case round=>
  obtain⟨rfl,rfl⟩:=hrel
  go_wp2
  go_ret
  exact⟨rfl,rfl⟩
theorem markLot(w:World)(s:Int):Calls Tryz.prog 48 #[.slice none 0 0,.int .i64 s] w fun e w'=>e= .returned (.int .i64 s)∧w'=w:=by
 go_enter Tryz.func48,Tryz.ntmps48
 go_wp2
 go_loopw [1,5] (fun m j wr=>m= .int .i64 s∧j= .int .i64 0∧wr=w) (fun _ _ _=>0)
 case atStart=>exact⟨rfl,rfl,rfl⟩
 case round=>
  obtain⟨rfl,rfl,rfl⟩:=hrel
  go_wp2
  go_ret
  exact⟨rfl,rfl⟩
theorem heldLot(w:World)(s:Int):Calls Tryz.prog 65 #[.slice none 0 0,.int .i64 s] w fun e w'=>e= .returned (.int .i64 s)∧w'=w:=by
 go_enter Tryz.func65,Tryz.ntmps65
 go_wp2
 go_loopw [1,5] (fun m j wr=>m= .int .i64 s∧j= .int .i64 0∧wr=w) (fun _ _ _=>0)
 case atStart=>exact⟨rfl,rfl,rfl⟩
 case round=>
  obtain⟨rfl,rfl,rfl⟩:=hrel
  go_wp2
  go_ret
  exact⟨rfl,rfl⟩
theorem eqTrade(w:World):Calls Tryz.prog 44 #[.slice none 0 0,.slice none 0 0] w fun e w'=>e= .returned (.bool true)∧w'=w:=by
 go_enter Tryz.func44,Tryz.ntmps44
 go_wp2
 go_loopw [5] (fun j wr=>j= .int .i64 0∧wr=w) (fun _ _=>0)
 case atStart=>exact⟨rfl,rfl⟩
 case round=>
  obtain⟨rfl,rfl⟩:=hrel
  go_wp2
  go_ret
  exact⟨rfl,rfl⟩
theorem markTrade(w:World)(s:Int):Calls Tryz.prog 49 #[.slice none 0 0,.int .i64 s] w fun e w'=>e= .returned (.int .i64 s)∧w'=w:=by
 go_enter Tryz.func49,Tryz.ntmps49
 go_wp2
 go_loopw [1,5] (fun m j wr=>m= .int .i64 s∧j= .int .i64 0∧wr=w) (fun _ _ _=>0)
 case atStart=>exact⟨rfl,rfl,rfl⟩
 case round=>
  obtain⟨rfl,rfl,rfl⟩:=hrel
  go_wp2
  go_ret
  exact⟨rfl,rfl⟩
theorem heldTrade(w:World)(s:Int):Calls Tryz.prog 66 #[.slice none 0 0,.int .i64 s] w fun e w'=>e= .returned (.int .i64 s)∧w'=w:=by
 go_enter Tryz.func66,Tryz.ntmps66
 go_wp2
 go_loopw [1,5] (fun m j wr=>m= .int .i64 s∧j= .int .i64 0∧wr=w) (fun _ _ _=>0)
 case atStart=>exact⟨rfl,rfl,rfl⟩
 case round=>
  obtain⟨rfl,rfl,rfl⟩:=hrel
  go_wp2
  go_ret
  exact⟨rfl,rfl⟩
theorem eqB0(w:World):Calls Tryz.prog 11 #[.agg #[.slice none 0 0,.slice none 0 0,.slice none 0 0,.slice none 0 0,.slice none 0 0,.int .i64 0],.agg #[.slice none 0 0,.slice none 0 0,.slice none 0 0,.slice none 0 0,.slice none 0 0,.int .i64 0]] w fun e w'=>e= .returned (.bool true)∧Below w.heap.size w w':=by
 have B:=zh (((Below.refl w.heap.size w).alloc (Nat.le_refl _) (.cells #[.slice none 0 0,.slice none 0 0,.slice none 0 0,.slice none 0 0,.slice none 0 0,.int .i64 0] 40)).alloc (by simp) (.cells #[.slice none 0 0,.slice none 0 0,.slice none 0 0,.slice none 0 0,.slice none 0 0,.int .i64 0] 40))
 go_enter Tryz.func11,Tryz.ntmps11
 go_wp2_with fail
 refine(eqAccount _).mono ?_
 rintro e uAccount ⟨rfl,rfl⟩
 go_wp2_with fail
 refine(eqInstr _).mono ?_
 rintro e uInstr ⟨rfl,rfl⟩
 go_wp2_with fail
 refine(eqBal _).mono ?_
 rintro e uBal ⟨rfl,rfl⟩
 go_wp2_with fail
 refine(eqLot _).mono ?_
 rintro e uLot ⟨rfl,rfl⟩
 go_wp2_with fail
 refine(eqTrade _).mono ?_
 rintro e uTrade ⟨rfl,rfl⟩
 go_wp2
 go_ret
 exact⟨rfl,zu B⟩
theorem markB0(w:World):Calls Tryz.prog 13 #[.agg #[.slice none 0 0,.slice none 0 0,.slice none 0 0,.slice none 0 0,.slice none 0 0,.int .i64 0],.int .i64 1] w fun e w'=>e= .returned (.int .i64 1)∧Below w.heap.size w w':=by
 have B:=zh ((Below.refl w.heap.size w).alloc (Nat.le_refl _) (.cells #[.slice none 0 0,.slice none 0 0,.slice none 0 0,.slice none 0 0,.slice none 0 0,.int .i64 0] 40))
 go_enter Tryz.func13,Tryz.ntmps13
 go_wp2_with fail
 refine(markAccount _ _).mono ?_
 rintro e uAccount ⟨rfl,rfl⟩
 go_wp2_with fail
 refine(markInstr _ _).mono ?_
 rintro e uInstr ⟨rfl,rfl⟩
 go_wp2_with fail
 refine(markBal _ _).mono ?_
 rintro e uBal ⟨rfl,rfl⟩
 go_wp2_with fail
 refine(markLot _ _).mono ?_
 rintro e uLot ⟨rfl,rfl⟩
 go_wp2_with fail
 refine(markTrade _ _).mono ?_
 rintro e uTrade ⟨rfl,rfl⟩
 go_wp2
 go_ret
 exact⟨rfl,zu B⟩
theorem heldB0(w:World):Calls Tryz.prog 19 #[.agg #[.slice none 0 0,.slice none 0 0,.slice none 0 0,.slice none 0 0,.slice none 0 0,.int .i64 0],.int .i64 1] w fun e w'=>e= .returned (.int .i64 1)∧Below w.heap.size w w':=by
 have B:=zh ((Below.refl w.heap.size w).alloc (Nat.le_refl _) (.cells #[.slice none 0 0,.slice none 0 0,.slice none 0 0,.slice none 0 0,.slice none 0 0,.int .i64 0] 40))
 go_enter Tryz.func19,Tryz.ntmps19
 go_wp2_with fail
 refine(heldAccount _ _).mono ?_
 rintro e uAccount ⟨rfl,rfl⟩
 go_wp2_with fail
 refine(heldInstr _ _).mono ?_
 rintro e uInstr ⟨rfl,rfl⟩
 go_wp2_with fail
 refine(heldBal _ _).mono ?_
 rintro e uBal ⟨rfl,rfl⟩
 go_wp2_with fail
 refine(heldLot _ _).mono ?_
 rintro e uLot ⟨rfl,rfl⟩
 go_wp2_with fail
 refine(heldTrade _ _).mono ?_
 rintro e uTrade ⟨rfl,rfl⟩
 go_wp2
 go_ret
 exact⟨rfl,zu B⟩
end BZero
namespace LawQ
open BMem Bks BHelp BkEq LawB
open IBalsFit (one_more)
structure QZ(w W:World)(y:Ix)(z:Bx)(pz:Nat):Prop where
 l:LB w W y
 bz:Bv W pz z
 oz:Ow W (w.heap.size+1) z
 uz:Up z pz
 n:w.heap.size<pz
theorem QZ.step{w W W':World}{y:Ix}{z:Bx}{pz:Nat}(h:QZ w W y z pz)(k:Below W.heap.size W W'):QZ w W' y z pz:=
 ⟨h.l.step k,h.bz.step k,h.oz.below k (Nat.le_refl _),h.uz,h.n⟩
structure QX(w W:World)(y:Ix)(z x:Bx)(pz px:Nat):Prop where
 q:QZ w W y z pz
 bx:Bv W px x
 ox:Ow W (pz+1) x
 ux:Up x px
 m:pz<px
theorem QX.step{w W W':World}{y:Ix}{z x:Bx}{pz px:Nat}(h:QX w W y z x pz px)(k:Below W.heap.size W W'):QX w W' y z x pz px:=
 ⟨h.q.step k,h.bx.step k,h.ox.below k (Nat.le_refl _),h.ux,h.m⟩
structure QG(w W:World)(y:Ix)(z x g:Bx)(pz px pg:Nat):Prop where
 q:QX w W y z x pz px
 bg:Bv W pg g
 og:Ow W (px+1) g
 ug:Up g pg
 k:px<pg
theorem QG.step{w W W':World}{y:Ix}{z x g:Bx}{pz px pg:Nat}(h:QG w W y z x g pz px pg)(k:Below W.heap.size W W'):QG w W' y z x g pz px pg:=
 ⟨h.q.step k,h.bg.step k,h.og.below k (Nat.le_refl _),h.ug,h.k⟩
structure QM(w W:World)(y:Ix)(z g:Bx)(pz pg:Nat):Prop where
 q:QZ w W y z pz
 bg:Bv W pg g
 og:Ow W (pz+1) g
 ug:Up g pg
 k:pz<pg
theorem QM.step{w W W':World}{y:Ix}{z g:Bx}{pz pg:Nat}(h:QM w W y z g pz pg)(k:Below W.heap.size W W'):QM w W' y z g pz pg:=
 ⟨h.q.step k,h.bg.step k,h.og.below k (Nat.le_refl _),h.ug,h.k⟩
theorem QG.turn{w W W':World}{y:Ix}{z x g:Bx}{pz px pg:Nat}(H:RdI w y)(h:QG w W y z x g pz px pg)(t:Turn x W W'):QM w W' y z g pz pg:=by
 have n:=h.q.q.n
 have m:=h.q.m
 have k:=h.k
 have lx:=ow_lo h.q.ox
 have lg:=ow_lo h.og
 exact⟨⟨LB.turn H h.q.q.l t (LawB.Lo.mono lx (by omega)),h.q.q.bz.turn t (.inl ⟨pz+1,by omega,lx⟩),t.ow h.q.q.oz (.inr ⟨pz,LawB.Lo.mono lx (by omega),h.q.q.uz⟩),h.q.q.uz,n⟩,h.bg.turn t (.inr ⟨px,by omega,h.q.ux⟩),(t.ow h.og (.inl ⟨px,h.q.ux,LawB.Lo.mono lg (by omega)⟩)).rebase (by omega),h.ug,by omega⟩
structure QH(w W:World)(y:Ix)(z g:Bx)(pz pg:Nat):Prop where
 q:QZ w W y z pz
 bg:Bv W pg g
 og:OwM W (pz+1) g
theorem QH.step{w W W':World}{y:Ix}{z g:Bx}{pz pg:Nat}(h:QH w W y z g pz pg)(k:Below W.heap.size W W'):QH w W' y z g pz pg:=
 ⟨h.q.step k,h.bg.step k,h.og.below k⟩
theorem QM.turn{w W W':World}{y:Ix}{z g:Bx}{pz pg:Nat}(H:RdI w y)(h:QM w W y z g pz pg)(t:Turn g W W')(o:OwM W' (pz+1) g):QH w W' y z g pz pg:=by
 have n:=h.q.n
 have k:=h.k
 have lg:=ow_lo h.og
 exact⟨⟨LB.turn H h.q.l t (LawB.Lo.mono lg (by omega)),h.q.bz.turn t (.inl ⟨pz+1,by omega,lg⟩),t.ow h.q.oz (.inr ⟨pz,LawB.Lo.mono lg (by omega),h.q.uz⟩),h.q.uz,n⟩,h.bg.turn t (.inr ⟨pg,Nat.le_refl _,h.ug⟩),o⟩
structure Zv(W:World)(g:Nat):Prop where
 c0:W.cell? ⟨g,0,none⟩=some (.slice none 0 0)
 c1:W.cell? ⟨g,1,none⟩=some (.slice none 0 0)
 c2:W.cell? ⟨g,2,none⟩=some (.slice none 0 0)
 c3:W.cell? ⟨g,3,none⟩=some (.slice none 0 0)
 c4:W.cell? ⟨g,4,none⟩=some (.slice none 0 0)
 c5:W.cell? ⟨g,5,none⟩=some (.int .i64 0)
 l:g<W.heap.size
theorem Zv.step{W W':World}{g:Nat}(h:Zv W g)(k:Below W.heap.size W W'):Zv W' g:=
 ⟨(k.cell (p:=⟨g,0,none⟩) h.l).trans h.c0,(k.cell (p:=⟨g,1,none⟩) h.l).trans h.c1,(k.cell (p:=⟨g,2,none⟩) h.l).trans h.c2,(k.cell (p:=⟨g,3,none⟩) h.l).trans h.c3,(k.cell (p:=⟨g,4,none⟩) h.l).trans h.c4,(k.cell (p:=⟨g,5,none⟩) h.l).trans h.c5,Nat.lt_of_lt_of_le h.l k.size⟩
theorem Zv.made(W:World)(e:TypeId):Zv (W.alloc (.cells #[.slice none 0 0,.slice none 0 0,.slice none 0 0,.slice none 0 0,.slice none 0 0,.int .i64 0] e)) W.heap.size:=⟨by simp,by simp,by simp,by simp,by simp,by simp,by simp⟩
theorem Zv.turn{W W':World}{g:Nat}{z:Bx}(h:Zv W g)(k:Turn z W W')(ne:(∃N,g<N∧Lo z N)∨∃N,N≤g∧Up z N):Zv W' g:=by
 have e:W'.heap[g]?=W.heap[g]?:=by
  refine k.block g h.l ?_ ?_ ?_ ?_ ?_
  all_goals
   rcases ne with⟨N,a,b⟩|⟨N,a,b⟩
   ·unfold Lo at b;omega
   ·unfold Up at b;omega
 have cc:∀i,W'.cell? ⟨g,i,none⟩=W.cell? ⟨g,i,none⟩:=fun i=>World.cell?_of_block (w:=W) (w':=W') (a:=⟨g,i,none⟩) e
 exact⟨(cc 0).trans h.c0,(cc 1).trans h.c1,(cc 2).trans h.c2,(cc 3).trans h.c3,(cc 4).trans h.c4,(cc 5).trans h.c5,Nat.lt_of_lt_of_le h.l k.size⟩
structure ZX(w W:World)(y:Ix)(x:Bx)(pz px:Nat):Prop where
 l:LB w W y
 zz:Zv W pz
 bx:Bv W px x
 ox:Ow W (pz+1) x
 ux:Up x px
 n:w.heap.size<pz
theorem ZX.step{w W W':World}{y:Ix}{x:Bx}{pz px:Nat}(h:ZX w W y x pz px)(k:Below W.heap.size W W'):ZX w W' y x pz px:=
 ⟨h.l.step k,h.zz.step k,h.bx.step k,h.ox.below k (Nat.le_refl _),h.ux,h.n⟩
structure ZG(w W:World)(y:Ix)(pz pg:Nat):Prop where
 l:LB w W y
 zz:Zv W pz
 zg:Zv W pg
theorem ZG.step{w W W':World}{y:Ix}{pz pg:Nat}(h:ZG w W y pz pg)(k:Below W.heap.size W W'):ZG w W' y pz pg:=
 ⟨h.l.step k,h.zz.step k,h.zg.step k⟩
theorem ZX.turn{w W W':World}{y:Ix}{x:Bx}{pz px pg:Nat}(H:RdI w y)(h:ZX w W y x pz px)(g:Zv W pg)(hg:px≤pg)(t:Turn x W W'):ZG w W' y pz pg:=by
 have n:=h.n
 have lx:=ow_lo h.ox
 exact⟨LB.turn H h.l t (LawB.Lo.mono lx (by omega)),h.zz.turn t (.inl ⟨pz+1,by omega,lx⟩),g.turn t (.inr ⟨px,hg,h.ux⟩)⟩
end LawQ
namespace Copy
open BMem
theorem cells2{W:World}{g:Nat}{ps:List (Int×Int)}(h:Pairs.At W g ps):∀(j:Nat) (u:Value),(Pairs.flat ps)[j]?=some u→W.cell? ((⟨g,0,none⟩:Addr).add j)=some u:=by
 intro j u hj
 have hl:j<ps.length*2:=by
  have:=(List.getElem?_eq_some_iff.1 hj).1
  rw[Pairs.flat_len] at this
  exact this
 rw[Addr.add_lit,Nat.zero_add]
 obtain⟨c0,c1⟩:=h (j/2) (by omega)
 obtain⟨f0,f1⟩:=Pairs.flat_get ps (j/2) (by omega)
 rcases(show j%2=0∨j%2=1 by omega) with e|e
 ·rw[show j/2*2=j by omega] at c0 f0
  rw[c0,←hj,f0]
 ·rw[show j/2*2+1=j by omega] at c1 f1
  rw[c1,←hj,f1]
theorem cells3{W:World}{g:Nat}{ps:List Bals.T3}(h:Triples.At3 W g ps):∀(j:Nat) (u:Value),(Triples.flat3 ps)[j]?=some u→W.cell? ((⟨g,0,none⟩:Addr).add j)=some u:=by
 intro j u hj
 have hl:j<ps.length*3:=by
  have:=(List.getElem?_eq_some_iff.1 hj).1
  rw[Triples.flat3_len] at this
  exact this
 rw[Addr.add_lit,Nat.zero_add]
 obtain⟨c0,c1,c2⟩:=h (j/3) (by omega)
 obtain⟨f0,f1,f2⟩:=Triples.flat3_get ps (j/3) (by omega)
 rcases(show j%3=0∨j%3=1∨j%3=2 by omega) with e|e|e
 ·rw[show j/3*3=j by omega] at c0 f0
  rw[c0,←hj,f0]
 ·rw[show j/3*3+1=j by omega] at c1 f1
  rw[c1,←hj,f1]
 ·rw[show j/3*3+2=j by omega] at c2 f2
  rw[c2,←hj,f2]
theorem cells5{W:World}{g:Nat}{ps:List Tup5.T5}(h:Tup5.At5 W g ps):∀(j:Nat) (u:Value),(Tup5.flat5 ps)[j]?=some u→W.cell? ((⟨g,0,none⟩:Addr).add j)=some u:=by
 intro j u hj
 have hl:j<ps.length*5:=by
  have:=(List.getElem?_eq_some_iff.1 hj).1
  rw[Tup5.flat5_len] at this
  exact this
 rw[Addr.add_lit,Nat.zero_add]
 obtain⟨c0,c1,c2,c3,c4⟩:=h (j/5) (by omega)
 obtain⟨f0,f1,f2,f3,f4⟩:=Tup5.flat5_get ps (j/5) (by omega)
 rcases(show j%5=0∨j%5=1∨j%5=2∨j%5=3∨j%5=4 by omega) with e|e|e|e|e
 ·rw[show j/5*5=j by omega] at c0 f0
  rw[c0,←hj,f0]
 ·rw[show j/5*5+1=j by omega] at c1 f1
  rw[c1,←hj,f1]
 ·rw[show j/5*5+2=j by omega] at c2 f2
  rw[c2,←hj,f2]
 ·rw[show j/5*5+3=j by omega] at c3 f3
  rw[c3,←hj,f3]
 ·rw[show j/5*5+4=j by omega] at c4 f4
  rw[c4,←hj,f4]
theorem cells8{W:World}{g:Nat}{ps:List Tup8.T8}(h:Tup8.At8 W g ps):∀(j:Nat) (u:Value),(Tup8.flat8 ps)[j]?=some u→W.cell? ((⟨g,0,none⟩:Addr).add j)=some u:=by
 intro j u hj
 have hl:j<ps.length*8:=by
  have:=(List.getElem?_eq_some_iff.1 hj).1
  rw[Tup8.flat8_len] at this
  exact this
 rw[Addr.add_lit,Nat.zero_add]
 obtain⟨c0,c1,c2,c3,c4,c5,c6,c7⟩:=h (j/8) (by omega)
 obtain⟨f0,f1,f2,f3,f4,f5,f6,f7⟩:=Tup8.flat8_get ps (j/8) (by omega)
 rcases(show j%8=0∨j%8=1∨j%8=2∨j%8=3∨j%8=4∨j%8=5∨j%8=6∨j%8=7 by omega) with e|e|e|e|e|e|e|e
 ·rw[show j/8*8=j by omega] at c0 f0
  rw[c0,←hj,f0]
 ·rw[show j/8*8+1=j by omega] at c1 f1
  rw[c1,←hj,f1]
 ·rw[show j/8*8+2=j by omega] at c2 f2
  rw[c2,←hj,f2]
 ·rw[show j/8*8+3=j by omega] at c3 f3
  rw[c3,←hj,f3]
 ·rw[show j/8*8+4=j by omega] at c4 f4
  rw[c4,←hj,f4]
 ·rw[show j/8*8+5=j by omega] at c5 f5
  rw[c5,←hj,f5]
 ·rw[show j/8*8+6=j by omega] at c6 f6
  rw[c6,←hj,f6]
 ·rw[show j/8*8+7=j by omega] at c7 f7
  rw[c7,←hj,f7]
theorem wpo_append{P:Program}{o:Oper}{a:Act}{u w':World}{K:Act→World→Prop}{Q:Exit→Act→World→Prop}(s x:Operand)(T:TypeId)(ho:o.op= .call {callee:= .builtin .append,args:= #[s,x],argTypes:= #[T,T]}){vs vx v':Value}(hs:a.eval s=vs)(hx:a.eval x=vx)
  (hr:(Builtin.append_ #[T,T] o.type #[vs,vx]).run P u= .ok v' w')(h:K (a.put o.dst v') w'):Oper.wp P o a u K Q:=by
 unfold Oper.wp execOp
 simp only[ho,resolve,invoke,builtin,Sem.run_bind,Sem.run_pure,Result.andThen_ok,List.map_toArray,List.map_cons,List.map_nil,hs,hx,hr]
 exact h
theorem run_copy(w:World)(base:Nat)(t ty e:TypeId)(i:TypeInfo)(z:Value)(size bytes:Nat)(ht:Tryz.prog.underlying t=some (.slice e))(hi:Tryz.prog.info? e=some i)(hz:i.zero=some z)
  (hsize:i.size=size)(hby:i.bytes=bytes)(hzs:z.cells.size=size)(hsz:0<size)(hbb:bytes≤64)(g cap:Nat)(hown:w.ownsRow base e size (.slice (some ⟨g,0,none⟩) 0 cap) 0 [])
  (b m c:Nat)(news:List Value)(hl:news.length=m*size)(hnews:∀j u,news[j]?=some u→w.cell? ((⟨b,0,none⟩:Addr).add j)=some u)(h1:∀u∈news,u.oneCell'=true)(hm:m≤1048576)(hbase:base≤w.heap.size):
  ∃g' c' w',(Builtin.append_ #[t,t] ty #[.slice (some ⟨g,0,none⟩) 0 cap,.slice (some ⟨b,0,none⟩) m c]).run Tryz.prog w= .ok (.slice (some ⟨g',0,none⟩) m c') w'∧w'.ownsRow base e size (.slice (some ⟨g',0,none⟩) m c') m news∧w.grownBy w' (some g)∧(g'=g∨g'=w.heap.size):=by
 obtain⟨v',w',hr,ho,hg,hn,hb⟩:=run_append_own_at (P:=Tryz.prog) w base t ty e i z size bytes ht hi hz hsize hby hzs hsz (.slice (some ⟨g,0,none⟩) 0 cap) 0 [] hown ⟨b,0,none⟩ m c news hl hnews h1 (by unfold maxLen;omega) (by
  have:(0+m)*bytes≤1048576*64:=Nat.mul_le_mul (by omega) hbb
  omega) hbase
 rw[Nat.zero_add,List.nil_append] at ho
 have ne:¬v'= .slice none 0 0:=fun e=>by have:=(hn.1 e).1;simp at this
 rcases ho.2 with⟨e1,_⟩|⟨g',c',cur,e1,h2,h3⟩
 ·exact absurd e1 ne
 ·subst e1
  refine⟨g',c',w',hr,ho,hg,?_⟩
  rcases hb with hb|hb
  ·exact .inl (by simpa[Value.ownBlock] using hb)
  ·exact .inr (by simpa[Value.ownBlock] using hb)
theorem infoAccount:(Tryz.prog.info? 111).map (fun i=>(i.zero,i.size,i.bytes))=some (some (.agg #[.int .i64 0,.int .i64 0]),2,16):=by kernel_rfl
theorem copyAccount(w:World)(base g cap:Nat)(hown:w.ownsRow base 111 2 (.slice (some ⟨g,0,none⟩) 0 cap) 0 [])(ty:TypeId)(b c:Nat)(ps:List (Int×Int))(h:Pairs.At w b ps)(hm:ps.length≤1048576)(hbase:base≤w.heap.size):
  ∃g' c' w',(Builtin.append_ #[34,34] ty #[.slice (some ⟨g,0,none⟩) 0 cap,.slice (some ⟨b,0,none⟩) ps.length c]).run Tryz.prog w= .ok (.slice (some ⟨g',0,none⟩) ps.length c') w'∧w'.ownsRow base 111 2 (.slice (some ⟨g',0,none⟩) ps.length c') ps.length (Pairs.flat ps)∧w.grownBy w' (some g)∧(g'=g∨g'=w.heap.size):=by
 obtain⟨i0,hi,hz0,hz1,hz2⟩:=info_parts infoAccount
 exact run_copy w base 34 ty 111 i0 (.agg #[.int .i64 0,.int .i64 0]) 2 16 Tryz.underlying34 hi hz0 hz1 hz2 rfl (by decide) (by decide) g cap hown b ps.length c (Pairs.flat ps) (Pairs.flat_len ps) (cells2 h) (fun u hu=>Pairs.flat_one u ps hu) hm hbase
theorem infoInstr:(Tryz.prog.info? 114).map (fun i=>(i.zero,i.size,i.bytes))=some (some (.agg #[.int .i64 0,.int .i64 0]),2,16):=by kernel_rfl
theorem copyInstr(w:World)(base g cap:Nat)(hown:w.ownsRow base 114 2 (.slice (some ⟨g,0,none⟩) 0 cap) 0 [])(ty:TypeId)(b c:Nat)(ps:List (Int×Int))(h:Pairs.At w b ps)(hm:ps.length≤1048576)(hbase:base≤w.heap.size):
  ∃g' c' w',(Builtin.append_ #[35,35] ty #[.slice (some ⟨g,0,none⟩) 0 cap,.slice (some ⟨b,0,none⟩) ps.length c]).run Tryz.prog w= .ok (.slice (some ⟨g',0,none⟩) ps.length c') w'∧w'.ownsRow base 114 2 (.slice (some ⟨g',0,none⟩) ps.length c') ps.length (Pairs.flat ps)∧w.grownBy w' (some g)∧(g'=g∨g'=w.heap.size):=by
 obtain⟨i0,hi,hz0,hz1,hz2⟩:=info_parts infoInstr
 exact run_copy w base 35 ty 114 i0 (.agg #[.int .i64 0,.int .i64 0]) 2 16 Tryz.underlying35 hi hz0 hz1 hz2 rfl (by decide) (by decide) g cap hown b ps.length c (Pairs.flat ps) (Pairs.flat_len ps) (cells2 h) (fun u hu=>Pairs.flat_one u ps hu) hm hbase
theorem infoBal:(Tryz.prog.info? 70).map (fun i=>(i.zero,i.size,i.bytes))=some (some (.agg #[.int .i64 0,.int .i64 0,.int .i64 0]),3,24):=by kernel_rfl
theorem copyBal(w:World)(base g cap:Nat)(hown:w.ownsRow base 70 3 (.slice (some ⟨g,0,none⟩) 0 cap) 0 [])(ty:TypeId)(b c:Nat)(ps:List Bals.T3)(h:Triples.At3 w b ps)(hm:ps.length≤1048576)(hbase:base≤w.heap.size):
  ∃g' c' w',(Builtin.append_ #[36,36] ty #[.slice (some ⟨g,0,none⟩) 0 cap,.slice (some ⟨b,0,none⟩) ps.length c]).run Tryz.prog w= .ok (.slice (some ⟨g',0,none⟩) ps.length c') w'∧w'.ownsRow base 70 3 (.slice (some ⟨g',0,none⟩) ps.length c') ps.length (Triples.flat3 ps)∧w.grownBy w' (some g)∧(g'=g∨g'=w.heap.size):=by
 obtain⟨i0,hi,hz0,hz1,hz2⟩:=info_parts infoBal
 exact run_copy w base 36 ty 70 i0 (.agg #[.int .i64 0,.int .i64 0,.int .i64 0]) 3 24 Tryz.underlying36 hi hz0 hz1 hz2 rfl (by decide) (by decide) g cap hown b ps.length c (Triples.flat3 ps) (Triples.flat3_len ps) (cells3 h) (fun u hu=>Triples.flat3_one u ps hu) hm hbase
theorem infoLot:(Tryz.prog.info? 120).map (fun i=>(i.zero,i.size,i.bytes))=some (some (.agg #[.int .i64 0,.int .i64 0,.int .i64 0,.int .i64 0,.int .i64 0]),5,40):=by kernel_rfl
theorem copyLot(w:World)(base g cap:Nat)(hown:w.ownsRow base 120 5 (.slice (some ⟨g,0,none⟩) 0 cap) 0 [])(ty:TypeId)(b c:Nat)(ps:List Tup5.T5)(h:Tup5.At5 w b ps)(hm:ps.length≤1048576)(hbase:base≤w.heap.size):
  ∃g' c' w',(Builtin.append_ #[37,37] ty #[.slice (some ⟨g,0,none⟩) 0 cap,.slice (some ⟨b,0,none⟩) ps.length c]).run Tryz.prog w= .ok (.slice (some ⟨g',0,none⟩) ps.length c') w'∧w'.ownsRow base 120 5 (.slice (some ⟨g',0,none⟩) ps.length c') ps.length (Tup5.flat5 ps)∧w.grownBy w' (some g)∧(g'=g∨g'=w.heap.size):=by
 obtain⟨i0,hi,hz0,hz1,hz2⟩:=info_parts infoLot
 exact run_copy w base 37 ty 120 i0 (.agg #[.int .i64 0,.int .i64 0,.int .i64 0,.int .i64 0,.int .i64 0]) 5 40 Tryz.underlying37 hi hz0 hz1 hz2 rfl (by decide) (by decide) g cap hown b ps.length c (Tup5.flat5 ps) (Tup5.flat5_len ps) (cells5 h) (fun u hu=>Tup5.flat5_one u ps hu) hm hbase
theorem infoTrade:(Tryz.prog.info? 64).map (fun i=>(i.zero,i.size,i.bytes))=some (some (.agg #[.int .i64 0,.int .i64 0,.int .i64 0,.int .i64 0,.int .i64 0,.int .i64 0,.int .i64 0,.int .i64 0]),8,64):=by kernel_rfl
theorem copyTrade(w:World)(base g cap:Nat)(hown:w.ownsRow base 64 8 (.slice (some ⟨g,0,none⟩) 0 cap) 0 [])(ty:TypeId)(b c:Nat)(ps:List Tup8.T8)(h:Tup8.At8 w b ps)(hm:ps.length≤1048576)(hbase:base≤w.heap.size):
  ∃g' c' w',(Builtin.append_ #[38,38] ty #[.slice (some ⟨g,0,none⟩) 0 cap,.slice (some ⟨b,0,none⟩) ps.length c]).run Tryz.prog w= .ok (.slice (some ⟨g',0,none⟩) ps.length c') w'∧w'.ownsRow base 64 8 (.slice (some ⟨g',0,none⟩) ps.length c') ps.length (Tup8.flat8 ps)∧w.grownBy w' (some g)∧(g'=g∨g'=w.heap.size):=by
 obtain⟨i0,hi,hz0,hz1,hz2⟩:=info_parts infoTrade
 exact run_copy w base 38 ty 64 i0 (.agg #[.int .i64 0,.int .i64 0,.int .i64 0,.int .i64 0,.int .i64 0,.int .i64 0,.int .i64 0,.int .i64 0]) 8 64 Tryz.underlying38 hi hz0 hz1 hz2 rfl (by decide) (by decide) g cap hown b ps.length c (Tup8.flat8 ps) (Tup8.flat8_len ps) (cells8 h) (fun u hu=>Tup8.flat8_one u ps hu) hm hbase
end Copy
namespace SCopy
open BMem Bks ILists Copy
open BHelp (row_block row_apart row_store)
open IBalsFit (one_more)
theorem wpl_append{P:Program}{ops:Array Oper}{rest:List Oper}{o:Oper}{a:Act}{u w':World}{Q:Exit→Act→World→Prop}(hgd:o.guard=none)(s x:Operand)(T:TypeId)(ho:o.op= .call {callee:= .builtin .append,args:= #[s,x],argTypes:= #[T,T]}){vs vx v':Value}(hs:a.eval s=vs)(hx:a.eval x=vx)
  (hr:(Builtin.append_ #[T,T] o.type #[vs,vx]).run P u= .ok v' w')(h:wpList P ops Q rest (a.put o.dst v') w'):wpList P ops Q (o::rest) a u:=
 wpList_plain hgd fun K hK=>wpo_append s x T ho hs hx hr (hK _ _ h)
theorem empty_made(W:World)(base:Nat)(e:TypeId)(size g:Nat)(hg:g=W.heap.size)(hb:base≤g):(W.alloc (.cells #[] e)).ownsRow base e size (.slice (some ⟨g,0,none⟩) 0 0) 0 []:=by
 subst hg
 exact World.ownsRow_made W #[] 0 hb (by unfold maxLen;omega) (by simp)
theorem row_kept{w w':World}{base:Nat}{e:TypeId}{size g n cap g0:Nat}{xs:List Value}(h:w.ownsRow base e size (.slice (some ⟨g,0,none⟩) n cap) n xs)(k:w.grownBy w' (some g0))(ne:g≠g0):w'.ownsRow base e size (.slice (some ⟨g,0,none⟩) n cap) n xs:=
 h.kept k (Or.inr (fun e=>ne (by simpa[Value.ownBlock] using e)))
structure TC(w W:World)(x:Bx)(v0 v1 v2 v3 v4 v5:Value):Prop where
 b:Below w.heap.size w W
 c:Cl W w.heap.size x
 o:Box W w.heap.size (w.heap.size+1+1) v0 v1 v2 v3 v4 v5
 r:Box W w.heap.size (w.heap.size+1) (.slice none 0 0) (.slice none 0 0) (.slice none 0 0) (.slice none 0 0) (.slice none 0 0) (.int .i64 0)
section
variable {w W W':World} {x:Bx} {v0 v1 v2 v3 v4 v5:Value}
theorem TC.call(h:TC w W x v0 v1 v2 v3 v4 v5)(k:Below W.heap.size W W'):TC w W' x v0 v1 v2 v3 v4 v5:=by
 have l:=h.o.lt
 exact⟨h.b.trans (k.mono h.b.size),h.c.below k (by omega),h.o.below k (by omega),h.r.below k (by omega)⟩
theorem TC.grown{g:Nat}(h:TC w W x v0 v1 v2 v3 v4 v5)(k:W.grownBy W' (some g))(hg:w.heap.size+3≤g):TC w W' x v0 v1 v2 v3 v4 v5:=by
 have n0:some w.heap.size≠some g:=fun e=>by injection e;omega
 exact⟨h.b.grown k h.b.size (fun j e=>by injection e;omega),⟨k.cell h.c.c0 n0,k.cell h.c.c1 n0,k.cell h.c.c2 n0,k.cell h.c.c3 n0,k.cell h.c.c4 n0,k.cell h.c.c5 n0⟩,h.o.kept k (fun e=>by injection e;omega),h.r.kept k (fun e=>by injection e;omega)⟩
theorem TC.set0(h:TC w W x v0 v1 v2 v3 v4 v5)(u:Value):TC w (W.setCell ⟨w.heap.size+1+1,0,none⟩ u) x u v1 v2 v3 v4 v5:=by
 obtain⟨b,g⟩:=h.o.set0 u
 have n0:some w.heap.size≠some (w.heap.size+1+1):=fun e=>by injection e;omega
 exact⟨h.b.setCell (by simp;omega) u,⟨g.cell h.c.c0 n0,g.cell h.c.c1 n0,g.cell h.c.c2 n0,g.cell h.c.c3 n0,g.cell h.c.c4 n0,g.cell h.c.c5 n0⟩,b,h.r.kept g (fun e=>by injection e;omega)⟩
theorem TC.set1(h:TC w W x v0 v1 v2 v3 v4 v5)(u:Value):TC w (W.setCell ⟨w.heap.size+1+1,1,none⟩ u) x v0 u v2 v3 v4 v5:=by
 obtain⟨b,g⟩:=h.o.set1 u
 have n0:some w.heap.size≠some (w.heap.size+1+1):=fun e=>by injection e;omega
 exact⟨h.b.setCell (by simp;omega) u,⟨g.cell h.c.c0 n0,g.cell h.c.c1 n0,g.cell h.c.c2 n0,g.cell h.c.c3 n0,g.cell h.c.c4 n0,g.cell h.c.c5 n0⟩,b,h.r.kept g (fun e=>by injection e;omega)⟩
theorem TC.set2(h:TC w W x v0 v1 v2 v3 v4 v5)(u:Value):TC w (W.setCell ⟨w.heap.size+1+1,2,none⟩ u) x v0 v1 u v3 v4 v5:=by
 obtain⟨b,g⟩:=h.o.set2 u
 have n0:some w.heap.size≠some (w.heap.size+1+1):=fun e=>by injection e;omega
 exact⟨h.b.setCell (by simp;omega) u,⟨g.cell h.c.c0 n0,g.cell h.c.c1 n0,g.cell h.c.c2 n0,g.cell h.c.c3 n0,g.cell h.c.c4 n0,g.cell h.c.c5 n0⟩,b,h.r.kept g (fun e=>by injection e;omega)⟩
theorem TC.set3(h:TC w W x v0 v1 v2 v3 v4 v5)(u:Value):TC w (W.setCell ⟨w.heap.size+1+1,3,none⟩ u) x v0 v1 v2 u v4 v5:=by
 obtain⟨b,g⟩:=h.o.set3 u
 have n0:some w.heap.size≠some (w.heap.size+1+1):=fun e=>by injection e;omega
 exact⟨h.b.setCell (by simp;omega) u,⟨g.cell h.c.c0 n0,g.cell h.c.c1 n0,g.cell h.c.c2 n0,g.cell h.c.c3 n0,g.cell h.c.c4 n0,g.cell h.c.c5 n0⟩,b,h.r.kept g (fun e=>by injection e;omega)⟩
theorem TC.set4(h:TC w W x v0 v1 v2 v3 v4 v5)(u:Value):TC w (W.setCell ⟨w.heap.size+1+1,4,none⟩ u) x v0 v1 v2 v3 u v5:=by
 obtain⟨b,g⟩:=h.o.set4 u
 have n0:some w.heap.size≠some (w.heap.size+1+1):=fun e=>by injection e;omega
 exact⟨h.b.setCell (by simp;omega) u,⟨g.cell h.c.c0 n0,g.cell h.c.c1 n0,g.cell h.c.c2 n0,g.cell h.c.c3 n0,g.cell h.c.c4 n0,g.cell h.c.c5 n0⟩,b,h.r.kept g (fun e=>by injection e;omega)⟩
theorem TC.set5(h:TC w W x v0 v1 v2 v3 v4 v5)(u:Value):TC w (W.setCell ⟨w.heap.size+1+1,5,none⟩ u) x v0 v1 v2 v3 v4 u:=by
 obtain⟨b,g⟩:=h.o.set5 u
 have n0:some w.heap.size≠some (w.heap.size+1+1):=fun e=>by injection e;omega
 exact⟨h.b.setCell (by simp;omega) u,⟨g.cell h.c.c0 n0,g.cell h.c.c1 n0,g.cell h.c.c2 n0,g.cell h.c.c3 n0,g.cell h.c.c4 n0,g.cell h.c.c5 n0⟩,b,h.r.kept g (fun e=>by injection e;omega)⟩
end
theorem sCopy(w:World)(x:Bx)(h:Rd w x):
  Calls Tryz.prog 53 #[.agg #[.slice (some ⟨x.ga,0,none⟩) x.b.ac.length x.ca,.slice (some ⟨x.gi,0,none⟩) x.b.ic.length x.ci,.slice (some ⟨x.gb,0,none⟩) x.b.bs.length x.cb,.slice (some ⟨x.gl,0,none⟩) x.b.ls.length x.cl,.slice (some ⟨x.gt,0,none⟩) x.b.ts.length x.ct,.int .i64 x.b.lot]] w fun e w'=>∃z:Bx,z.b=x.b∧e= .returned (.agg #[.slice (some ⟨z.ga,0,none⟩) z.b.ac.length z.ca,.slice (some ⟨z.gi,0,none⟩) z.b.ic.length z.ci,.slice (some ⟨z.gb,0,none⟩) z.b.bs.length z.cb,.slice (some ⟨z.gl,0,none⟩) z.b.ls.length z.cl,.slice (some ⟨z.gt,0,none⟩) z.b.ts.length z.ct,.int .i64 z.b.lot])∧Ow w' w.heap.size z∧Below w.heap.size w w':=by
 have H:=zh h
 have na:=h.na
 have ni:=h.ni
 have nb:=h.nb
 have nl:=h.nl
 have nt:=h.nt
 have T0:=zh (show TC w (((w.alloc (.cells #[.slice (some ⟨x.ga,0,none⟩) x.b.ac.length x.ca,.slice (some ⟨x.gi,0,none⟩) x.b.ic.length x.ci,.slice (some ⟨x.gb,0,none⟩) x.b.bs.length x.cb,.slice (some ⟨x.gl,0,none⟩) x.b.ls.length x.cl,.slice (some ⟨x.gt,0,none⟩) x.b.ts.length x.ct,.int .i64 x.b.lot] 40)).alloc (.cells #[.slice none 0 0,.slice none 0 0,.slice none 0 0,.slice none 0 0,.slice none 0 0,.int .i64 0] 40)).alloc (.cells #[.slice none 0 0,.slice none 0 0,.slice none 0 0,.slice none 0 0,.slice none 0 0,.int .i64 x.b.lot] 40)) x (.slice none 0 0) (.slice none 0 0) (.slice none 0 0) (.slice none 0 0) (.slice none 0 0) (.int .i64 x.b.lot) from by
  have b2:Below (w.alloc (.cells #[.slice (some ⟨x.ga,0,none⟩) x.b.ac.length x.ca,.slice (some ⟨x.gi,0,none⟩) x.b.ic.length x.ci,.slice (some ⟨x.gb,0,none⟩) x.b.bs.length x.cb,.slice (some ⟨x.gl,0,none⟩) x.b.ls.length x.cl,.slice (some ⟨x.gt,0,none⟩) x.b.ts.length x.ct,.int .i64 x.b.lot] 40)).heap.size (w.alloc (.cells #[.slice (some ⟨x.ga,0,none⟩) x.b.ac.length x.ca,.slice (some ⟨x.gi,0,none⟩) x.b.ic.length x.ci,.slice (some ⟨x.gb,0,none⟩) x.b.bs.length x.cb,.slice (some ⟨x.gl,0,none⟩) x.b.ls.length x.cl,.slice (some ⟨x.gt,0,none⟩) x.b.ts.length x.ct,.int .i64 x.b.lot] 40)) (((w.alloc (.cells #[.slice (some ⟨x.ga,0,none⟩) x.b.ac.length x.ca,.slice (some ⟨x.gi,0,none⟩) x.b.ic.length x.ci,.slice (some ⟨x.gb,0,none⟩) x.b.bs.length x.cb,.slice (some ⟨x.gl,0,none⟩) x.b.ls.length x.cl,.slice (some ⟨x.gt,0,none⟩) x.b.ts.length x.ct,.int .i64 x.b.lot] 40)).alloc (.cells #[.slice none 0 0,.slice none 0 0,.slice none 0 0,.slice none 0 0,.slice none 0 0,.int .i64 0] 40)).alloc (.cells #[.slice none 0 0,.slice none 0 0,.slice none 0 0,.slice none 0 0,.slice none 0 0,.int .i64 x.b.lot] 40)):=((Below.refl _ _).alloc (Nat.le_refl _) _).alloc (by simp) _
  exact⟨((Below.refl w.heap.size w).alloc (Nat.le_refl _) _).trans (b2.mono (by simp)),(boxed w x 40).below b2 (by simp),Box.made _ _ _ _ _ _ (by simp;omega) (by simp),(Box.made (w:=w.alloc (.cells #[.slice (some ⟨x.ga,0,none⟩) x.b.ac.length x.ca,.slice (some ⟨x.gi,0,none⟩) x.b.ic.length x.ci,.slice (some ⟨x.gb,0,none⟩) x.b.bs.length x.cb,.slice (some ⟨x.gl,0,none⟩) x.b.ls.length x.cl,.slice (some ⟨x.gt,0,none⟩) x.b.ts.length x.ct,.int .i64 x.b.lot] 40)) (g:=w.heap.size+1) _ _ _ _ _ _ (by simp) (by simp)).below (one_more _ _) (by simp)⟩)
 clear h
 have A0:=zh ((zu T0).call (one_more _ (.cells #[] 111)))
 have z0:w.heap.size+3≤w.heap.size+1+1+1:=by have:=(zu T0).o.lt;simp at this⊢;try omega
 obtain⟨g0,c0',w1,hr0,ow0,gr0,_⟩:=copyAccount ((((w.alloc (.cells #[.slice (some ⟨x.ga,0,none⟩) x.b.ac.length x.ca,.slice (some ⟨x.gi,0,none⟩) x.b.ic.length x.ci,.slice (some ⟨x.gb,0,none⟩) x.b.bs.length x.cb,.slice (some ⟨x.gl,0,none⟩) x.b.ls.length x.cl,.slice (some ⟨x.gt,0,none⟩) x.b.ts.length x.ct,.int .i64 x.b.lot] 40)).alloc (.cells #[.slice none 0 0,.slice none 0 0,.slice none 0 0,.slice none 0 0,.slice none 0 0,.int .i64 0] 40)).alloc (.cells #[.slice none 0 0,.slice none 0 0,.slice none 0 0,.slice none 0 0,.slice none 0 0,.int .i64 x.b.lot] 40)).alloc (.cells #[] 111)) (w.heap.size+3) (w.heap.size+1+1+1) 0 (empty_made (((w.alloc (.cells #[.slice (some ⟨x.ga,0,none⟩) x.b.ac.length x.ca,.slice (some ⟨x.gi,0,none⟩) x.b.ic.length x.ci,.slice (some ⟨x.gb,0,none⟩) x.b.bs.length x.cb,.slice (some ⟨x.gl,0,none⟩) x.b.ls.length x.cl,.slice (some ⟨x.gt,0,none⟩) x.b.ts.length x.ct,.int .i64 x.b.lot] 40)).alloc (.cells #[.slice none 0 0,.slice none 0 0,.slice none 0 0,.slice none 0 0,.slice none 0 0,.int .i64 0] 40)).alloc (.cells #[.slice none 0 0,.slice none 0 0,.slice none 0 0,.slice none 0 0,.slice none 0 0,.int .i64 x.b.lot] 40)) _ _ _ _ (by simp) z0) 34 x.ga x.ca x.b.ac ((zu H).below (zu A0).b).ra na (by have:=(zu A0).o.lt;omega)
 have G0:=zh ((zu A0).grown gr0 z0)
 have O0:=zh (show Pairs.Own 111 w1 (w.heap.size+3) g0 x.b.ac.length c0' x.b.ac from ow0)
 have T1:=zh ((zu G0).set0 (.slice (some ⟨g0,0,none⟩) x.b.ac.length c0'))
 have p0:=(zu G0).o.c0
 have f0:=(zu G0).o.free 0
 have A1:=zh ((zu T1).call (one_more _ (.cells #[] 114)))
 have z1:w.heap.size+3≤w1.heap.size:=by have:=(zu T1).o.lt;simp[World.setCell] at this⊢;try omega
 obtain⟨g1,c1',w2,hr1,ow1,gr1,_⟩:=copyInstr ((w1.setCell ⟨w.heap.size+1+1,0,none⟩ (.slice (some ⟨g0,0,none⟩) x.b.ac.length c0')).alloc (.cells #[] 114)) (w.heap.size+3) (w1.heap.size) 0 (empty_made (w1.setCell ⟨w.heap.size+1+1,0,none⟩ (.slice (some ⟨g0,0,none⟩) x.b.ac.length c0')) _ _ _ _ (by simp[World.setCell]) z1) 35 x.gi x.ci x.b.ic ((zu H).below (zu A1).b).ri ni (by have:=(zu A1).o.lt;omega)
 have G1:=zh ((zu A1).grown gr1 z1)
 have O1:=zh (show Pairs.Own 114 w2 (w.heap.size+3) g1 x.b.ic.length c1' x.b.ic from ow1)
 replace O0:=zh (show Pairs.Own 111 w2 (w.heap.size+3) g0 x.b.ac.length c0' x.b.ac from row_kept (World.ownsRow.alloc (row_store (zu O0) (a:=⟨w.heap.size+1+1,0,none⟩) (by simp) (.slice (some ⟨g0,0,none⟩) x.b.ac.length c0')) _) gr1 (by have h1:=World.ownsRow.lt (zu O0) g0 rfl;omega))
 have T2:=zh ((zu G1).set1 (.slice (some ⟨g1,0,none⟩) x.b.ic.length c1'))
 have p1:=(zu G1).o.c1
 have f1:=(zu G1).o.free 1
 have s1:=(zu A1).c.c1
 have A2:=zh ((zu T2).call (one_more _ (.cells #[] 70)))
 have z2:w.heap.size+3≤w2.heap.size:=by have:=(zu T2).o.lt;simp[World.setCell] at this⊢;try omega
 obtain⟨g2,c2',w3,hr2,ow2,gr2,_⟩:=copyBal ((w2.setCell ⟨w.heap.size+1+1,1,none⟩ (.slice (some ⟨g1,0,none⟩) x.b.ic.length c1')).alloc (.cells #[] 70)) (w.heap.size+3) (w2.heap.size) 0 (empty_made (w2.setCell ⟨w.heap.size+1+1,1,none⟩ (.slice (some ⟨g1,0,none⟩) x.b.ic.length c1')) _ _ _ _ (by simp[World.setCell]) z2) 36 x.gb x.cb x.b.bs ((zu H).below (zu A2).b).rb nb (by have:=(zu A2).o.lt;omega)
 have G2:=zh ((zu A2).grown gr2 z2)
 have O2:=zh (show Triples.Own3 70 w3 (w.heap.size+3) g2 x.b.bs.length c2' x.b.bs from ow2)
 replace O0:=zh (show Pairs.Own 111 w3 (w.heap.size+3) g0 x.b.ac.length c0' x.b.ac from row_kept (World.ownsRow.alloc (row_store (zu O0) (a:=⟨w.heap.size+1+1,1,none⟩) (by simp) (.slice (some ⟨g1,0,none⟩) x.b.ic.length c1')) _) gr2 (by have h1:=World.ownsRow.lt (zu O0) g0 rfl;omega))
 replace O1:=zh (show Pairs.Own 114 w3 (w.heap.size+3) g1 x.b.ic.length c1' x.b.ic from row_kept (World.ownsRow.alloc (row_store (zu O1) (a:=⟨w.heap.size+1+1,1,none⟩) (by simp) (.slice (some ⟨g1,0,none⟩) x.b.ic.length c1')) _) gr2 (by have h1:=World.ownsRow.lt (zu O1) g1 rfl;omega))
 have T3:=zh ((zu G2).set2 (.slice (some ⟨g2,0,none⟩) x.b.bs.length c2'))
 have p2:=(zu G2).o.c2
 have f2:=(zu G2).o.free 2
 have s2:=(zu A2).c.c2
 have A3:=zh ((zu T3).call (one_more _ (.cells #[] 120)))
 have z3:w.heap.size+3≤w3.heap.size:=by have:=(zu T3).o.lt;simp[World.setCell] at this⊢;try omega
 obtain⟨g3,c3',w4,hr3,ow3,gr3,_⟩:=copyLot ((w3.setCell ⟨w.heap.size+1+1,2,none⟩ (.slice (some ⟨g2,0,none⟩) x.b.bs.length c2')).alloc (.cells #[] 120)) (w.heap.size+3) (w3.heap.size) 0 (empty_made (w3.setCell ⟨w.heap.size+1+1,2,none⟩ (.slice (some ⟨g2,0,none⟩) x.b.bs.length c2')) _ _ _ _ (by simp[World.setCell]) z3) 37 x.gl x.cl x.b.ls ((zu H).below (zu A3).b).rl nl (by have:=(zu A3).o.lt;omega)
 have G3:=zh ((zu A3).grown gr3 z3)
 have O3:=zh (show Tup5.Own5 120 w4 (w.heap.size+3) g3 x.b.ls.length c3' x.b.ls from ow3)
 replace O0:=zh (show Pairs.Own 111 w4 (w.heap.size+3) g0 x.b.ac.length c0' x.b.ac from row_kept (World.ownsRow.alloc (row_store (zu O0) (a:=⟨w.heap.size+1+1,2,none⟩) (by simp) (.slice (some ⟨g2,0,none⟩) x.b.bs.length c2')) _) gr3 (by have h1:=World.ownsRow.lt (zu O0) g0 rfl;omega))
 replace O1:=zh (show Pairs.Own 114 w4 (w.heap.size+3) g1 x.b.ic.length c1' x.b.ic from row_kept (World.ownsRow.alloc (row_store (zu O1) (a:=⟨w.heap.size+1+1,2,none⟩) (by simp) (.slice (some ⟨g2,0,none⟩) x.b.bs.length c2')) _) gr3 (by have h1:=World.ownsRow.lt (zu O1) g1 rfl;omega))
 replace O2:=zh (show Triples.Own3 70 w4 (w.heap.size+3) g2 x.b.bs.length c2' x.b.bs from row_kept (World.ownsRow.alloc (row_store (zu O2) (a:=⟨w.heap.size+1+1,2,none⟩) (by simp) (.slice (some ⟨g2,0,none⟩) x.b.bs.length c2')) _) gr3 (by have h1:=World.ownsRow.lt (zu O2) g2 rfl;omega))
 have T4:=zh ((zu G3).set3 (.slice (some ⟨g3,0,none⟩) x.b.ls.length c3'))
 have p3:=(zu G3).o.c3
 have f3:=(zu G3).o.free 3
 have s3:=(zu A3).c.c3
 have A4:=zh ((zu T4).call (one_more _ (.cells #[] 64)))
 have z4:w.heap.size+3≤w4.heap.size:=by have:=(zu T4).o.lt;simp[World.setCell] at this⊢;try omega
 obtain⟨g4,c4',w5,hr4,ow4,gr4,_⟩:=copyTrade ((w4.setCell ⟨w.heap.size+1+1,3,none⟩ (.slice (some ⟨g3,0,none⟩) x.b.ls.length c3')).alloc (.cells #[] 64)) (w.heap.size+3) (w4.heap.size) 0 (empty_made (w4.setCell ⟨w.heap.size+1+1,3,none⟩ (.slice (some ⟨g3,0,none⟩) x.b.ls.length c3')) _ _ _ _ (by simp[World.setCell]) z4) 38 x.gt x.ct x.b.ts ((zu H).below (zu A4).b).rt nt (by have:=(zu A4).o.lt;omega)
 have G4:=zh ((zu A4).grown gr4 z4)
 have O4:=zh (show Tup8.Own8 64 w5 (w.heap.size+3) g4 x.b.ts.length c4' x.b.ts from ow4)
 replace O0:=zh (show Pairs.Own 111 w5 (w.heap.size+3) g0 x.b.ac.length c0' x.b.ac from row_kept (World.ownsRow.alloc (row_store (zu O0) (a:=⟨w.heap.size+1+1,3,none⟩) (by simp) (.slice (some ⟨g3,0,none⟩) x.b.ls.length c3')) _) gr4 (by have h1:=World.ownsRow.lt (zu O0) g0 rfl;omega))
 replace O1:=zh (show Pairs.Own 114 w5 (w.heap.size+3) g1 x.b.ic.length c1' x.b.ic from row_kept (World.ownsRow.alloc (row_store (zu O1) (a:=⟨w.heap.size+1+1,3,none⟩) (by simp) (.slice (some ⟨g3,0,none⟩) x.b.ls.length c3')) _) gr4 (by have h1:=World.ownsRow.lt (zu O1) g1 rfl;omega))
 replace O2:=zh (show Triples.Own3 70 w5 (w.heap.size+3) g2 x.b.bs.length c2' x.b.bs from row_kept (World.ownsRow.alloc (row_store (zu O2) (a:=⟨w.heap.size+1+1,3,none⟩) (by simp) (.slice (some ⟨g3,0,none⟩) x.b.ls.length c3')) _) gr4 (by have h1:=World.ownsRow.lt (zu O2) g2 rfl;omega))
 replace O3:=zh (show Tup5.Own5 120 w5 (w.heap.size+3) g3 x.b.ls.length c3' x.b.ls from row_kept (World.ownsRow.alloc (row_store (zu O3) (a:=⟨w.heap.size+1+1,3,none⟩) (by simp) (.slice (some ⟨g3,0,none⟩) x.b.ls.length c3')) _) gr4 (by have h1:=World.ownsRow.lt (zu O3) g3 rfl;omega))
 have T5:=zh ((zu G4).set4 (.slice (some ⟨g4,0,none⟩) x.b.ts.length c4'))
 have p4:=(zu G4).o.c4
 have f4:=(zu G4).o.free 4
 have s4:=(zu A4).c.c4
 clear p4
 have o0:=(zu G4).o.c0
 have r0:=(zu G4).r.c0
 have u0:=(zu G4).r.free 0
 have o1:=(zu G4).o.c1
 have r1:=(zu G4).r.c1
 have u1:=(zu G4).r.free 1
 have o2:=(zu G4).o.c2
 have r2:=(zu G4).r.c2
 have u2:=(zu G4).r.free 2
 have o3:=(zu G4).o.c3
 have r3:=(zu G4).r.c3
 have u3:=(zu G4).r.free 3
 have o4:=(zu G4).o.c4
 have r4:=(zu G4).r.c4
 have u4:=(zu G4).r.free 4
 have o5:=(zu G4).o.c5
 have r5:=(zu G4).r.c5
 have u5:=(zu G4).r.free 5
 have B5:=zh (zu T5).b
 clear gr0 gr1 gr2 gr3 gr4 ow0 ow1 ow2 ow3 ow4
 go_enter Tryz.func53,Tryz.ntmps53
 go_wp2_with (first|(at_builtin;refine wpl_append rfl (.tmp 7) (.tmp 9) 34 rfl rfl rfl hr0 ?_)|(at_builtin;refine wpl_append rfl (.tmp 12) (.tmp 14) 35 rfl rfl rfl hr1 ?_)|(at_builtin;refine wpl_append rfl (.tmp 17) (.tmp 19) 36 rfl rfl rfl hr2 ?_)|(at_builtin;refine wpl_append rfl (.tmp 22) (.tmp 24) 37 rfl rfl rfl hr3 ?_)|(at_builtin;refine wpl_append rfl (.tmp 27) (.tmp 29) 38 rfl rfl rfl hr4 ?_))
 refine bodyPost_ret (v:= .agg #[.slice (some ⟨g0,0,none⟩) x.b.ac.length c0',.slice (some ⟨g1,0,none⟩) x.b.ic.length c1',.slice (some ⟨g2,0,none⟩) x.b.bs.length c2',.slice (some ⟨g3,0,none⟩) x.b.ls.length c3',.slice (some ⟨g4,0,none⟩) x.b.ts.length c4',.int .i64 x.b.lot]) (by simp[results,Tryz.results53,go_sem,r0,r1,r2,r3,r4,r5]) rfl ⟨⟨g0,c0',g1,c1',g2,c2',g3,c3',g4,c4',x.b⟩,rfl,rfl,?_,?_⟩
 ·exact Ow.rebase (base:=w.heap.size+3) ⟨(row_store (row_store (row_store (row_store (row_store (row_store (row_store (zu O0) (a:=⟨w.heap.size+1+1,4,none⟩) (by simp) _) (a:=⟨w.heap.size+1,0,none⟩) (by simp) _) (a:=⟨w.heap.size+1,1,none⟩) (by simp) _) (a:=⟨w.heap.size+1,2,none⟩) (by simp) _) (a:=⟨w.heap.size+1,3,none⟩) (by simp) _) (a:=⟨w.heap.size+1,4,none⟩) (by simp) _) (a:=⟨w.heap.size+1,5,none⟩) (by simp) _),(row_store (row_store (row_store (row_store (row_store (row_store (row_store (zu O1) (a:=⟨w.heap.size+1+1,4,none⟩) (by simp) _) (a:=⟨w.heap.size+1,0,none⟩) (by simp) _) (a:=⟨w.heap.size+1,1,none⟩) (by simp) _) (a:=⟨w.heap.size+1,2,none⟩) (by simp) _) (a:=⟨w.heap.size+1,3,none⟩) (by simp) _) (a:=⟨w.heap.size+1,4,none⟩) (by simp) _) (a:=⟨w.heap.size+1,5,none⟩) (by simp) _),(row_store (row_store (row_store (row_store (row_store (row_store (row_store (zu O2) (a:=⟨w.heap.size+1+1,4,none⟩) (by simp) _) (a:=⟨w.heap.size+1,0,none⟩) (by simp) _) (a:=⟨w.heap.size+1,1,none⟩) (by simp) _) (a:=⟨w.heap.size+1,2,none⟩) (by simp) _) (a:=⟨w.heap.size+1,3,none⟩) (by simp) _) (a:=⟨w.heap.size+1,4,none⟩) (by simp) _) (a:=⟨w.heap.size+1,5,none⟩) (by simp) _),(row_store (row_store (row_store (row_store (row_store (row_store (row_store (zu O3) (a:=⟨w.heap.size+1+1,4,none⟩) (by simp) _) (a:=⟨w.heap.size+1,0,none⟩) (by simp) _) (a:=⟨w.heap.size+1,1,none⟩) (by simp) _) (a:=⟨w.heap.size+1,2,none⟩) (by simp) _) (a:=⟨w.heap.size+1,3,none⟩) (by simp) _) (a:=⟨w.heap.size+1,4,none⟩) (by simp) _) (a:=⟨w.heap.size+1,5,none⟩) (by simp) _),(row_store (row_store (row_store (row_store (row_store (row_store (row_store (zu O4) (a:=⟨w.heap.size+1+1,4,none⟩) (by simp) _) (a:=⟨w.heap.size+1,0,none⟩) (by simp) _) (a:=⟨w.heap.size+1,1,none⟩) (by simp) _) (a:=⟨w.heap.size+1,2,none⟩) (by simp) _) (a:=⟨w.heap.size+1,3,none⟩) (by simp) _) (a:=⟨w.heap.size+1,4,none⟩) (by simp) _) (a:=⟨w.heap.size+1,5,none⟩) (by simp) _)⟩ (by omega)
 ·exact(((((((zu B5).setCell (p:=⟨w.heap.size+1,0,none⟩) (by simp) _).setCell (p:=⟨w.heap.size+1,1,none⟩) (by simp) _).setCell (p:=⟨w.heap.size+1,2,none⟩) (by simp) _).setCell (p:=⟨w.heap.size+1,3,none⟩) (by simp) _).setCell (p:=⟨w.heap.size+1,4,none⟩) (by simp) _).setCell (p:=⟨w.heap.size+1,5,none⟩) (by simp) _)
end SCopy
namespace Ans
open BMem Bks ILists BHelp
open IBalsFit (one_more)
def Off(z:Bx)(g:Nat):Prop:=z.ga≠g∧z.gi≠g∧z.gb≠g∧z.gl≠g∧z.gt≠g
theorem off_up{z:Bx}{N g:Nat}(h:Up z N)(k:N≤g):Off z g:=by
 unfold Up at h
 unfold Off
 omega
theorem off_lo{z:Bx}{N g:Nat}(h:Lo z N)(k:g<N):Off z g:=by
 unfold Lo at h
 unfold Off
 omega
theorem row_set{w:World}{base:Nat}{e:TypeId}{size g n cap:Nat}{xs:List Value}(h:w.ownsRow base e size (.slice (some ⟨g,0,none⟩) n cap) n xs){g0:Nat}(ne:g≠g0)(j:Nat)(u:Value):(w.setCell ⟨g0,j,none⟩ u).ownsRow base e size (.slice (some ⟨g,0,none⟩) n cap) n xs:=
 row_block h (Below.heap_setCell w ⟨g0,j,none⟩ u g ne)
theorem ow_set{w:World}{base:Nat}{z:Bx}{g:Nat}(h:Ow w base z)(off:Off z g)(j:Nat)(u:Value):Ow (w.setCell ⟨g,j,none⟩ u) base z:=
 ⟨row_set h.oa off.1 j u,row_set h.oi off.2.1 j u,row_set h.ob off.2.2.1 j u,row_set h.ol off.2.2.2.1 j u,row_set h.ot off.2.2.2.2 j u⟩
theorem ow_alloc{w:World}{base:Nat}{z:Bx}(h:Ow w base z)(o:Obj):Ow (w.alloc o) base z:=
 ⟨h.oa.alloc o,h.oi.alloc o,h.ob.alloc o,h.ol.alloc o,h.ot.alloc o⟩
theorem six{B:Nat}{a w:World}{g:Nat}(h:Below B a w)(hg:B≤g)(u0 u1 u2 u3 u4 u5:Value):Below B a ((((((w.setCell ⟨g,0,none⟩ u0).setCell ⟨g,1,none⟩ u1).setCell ⟨g,2,none⟩ u2).setCell ⟨g,3,none⟩ u3).setCell ⟨g,4,none⟩ u4).setCell ⟨g,5,none⟩ u5):=
 (((((h.setCell (p:=⟨g,0,none⟩) hg u0).setCell (p:=⟨g,1,none⟩) hg u1).setCell (p:=⟨g,2,none⟩) hg u2).setCell (p:=⟨g,3,none⟩) hg u3).setCell (p:=⟨g,4,none⟩) hg u4).setCell (p:=⟨g,5,none⟩) hg u5
theorem ow_six{w:World}{base:Nat}{z:Bx}{g:Nat}(h:Ow w base z)(off:Off z g)(u0 u1 u2 u3 u4 u5:Value):Ow ((((((w.setCell ⟨g,0,none⟩ u0).setCell ⟨g,1,none⟩ u1).setCell ⟨g,2,none⟩ u2).setCell ⟨g,3,none⟩ u3).setCell ⟨g,4,none⟩ u4).setCell ⟨g,5,none⟩ u5) base z:=
 ow_set (ow_set (ow_set (ow_set (ow_set (ow_set h off 0 u0) off 1 u1) off 2 u2) off 3 u3) off 4 u4) off 5 u5
theorem box_six{w:World}{base g:Nat}{v0 v1 v2 v3 v4 v5:Value}(h:Box w base g v0 v1 v2 v3 v4 v5)(u0 u1 u2 u3 u4 u5:Value):Box ((((((w.setCell ⟨g,0,none⟩ u0).setCell ⟨g,1,none⟩ u1).setCell ⟨g,2,none⟩ u2).setCell ⟨g,3,none⟩ u3).setCell ⟨g,4,none⟩ u4).setCell ⟨g,5,none⟩ u5) base g u0 u1 u2 u3 u4 u5∧w.grownBy ((((((w.setCell ⟨g,0,none⟩ u0).setCell ⟨g,1,none⟩ u1).setCell ⟨g,2,none⟩ u2).setCell ⟨g,3,none⟩ u3).setCell ⟨g,4,none⟩ u4).setCell ⟨g,5,none⟩ u5) (some g):=by
 obtain⟨s0,y0⟩:=h.set0 u0
 obtain⟨s1,y1⟩:=s0.set1 u1
 obtain⟨s2,y2⟩:=s1.set2 u2
 obtain⟨s3,y3⟩:=s2.set3 u3
 obtain⟨s4,y4⟩:=s3.set4 u4
 obtain⟨s5,y5⟩:=s4.set5 u5
 exact⟨s5,Pairs.grown_trans (Pairs.grown_trans (Pairs.grown_trans (Pairs.grown_trans (Pairs.grown_trans y0 y1) y2) y3) y4) y5⟩
structure SR(w W:World)(x:Bx):Prop where
 r:Rd W x
 c:Cl W w.heap.size x
 v:Box W w.heap.size (w.heap.size+1) (.slice none 0 0) (.slice none 0 0) (.slice none 0 0) (.slice none 0 0) (.slice none 0 0) (.int .i64 0)
 b:Below w.heap.size w W
theorem SR.start{w:World}{x:Bx}(h:Rd w x):SR w ((w.alloc (.cells #[.slice (some ⟨x.ga,0,none⟩) x.b.ac.length x.ca,.slice (some ⟨x.gi,0,none⟩) x.b.ic.length x.ci,.slice (some ⟨x.gb,0,none⟩) x.b.bs.length x.cb,.slice (some ⟨x.gl,0,none⟩) x.b.ls.length x.cl,.slice (some ⟨x.gt,0,none⟩) x.b.ts.length x.ct,.int .i64 x.b.lot] 40)).alloc (.cells #[.slice none 0 0,.slice none 0 0,.slice none 0 0,.slice none 0 0,.slice none 0 0,.int .i64 0] 40)) x:=
 ⟨(h.alloc _).alloc _,(boxed w x 40).below (one_more _ _) (by simp),Box.made _ _ _ _ _ _ (by simp) (by simp),((Below.refl w.heap.size w).alloc (Nat.le_refl _) _).alloc (by simp) _⟩
theorem SR.step{w W W':World}{x:Bx}(h:SR w W x)(k:Below W.heap.size W W'):SR w W' x:=by
 have l:=h.v.lt
 exact⟨h.r.below k,h.c.below k (by omega),h.v.below k (by omega),h.b.trans (k.mono h.b.size)⟩
theorem ok_small{b:Bk}(h:Ok b):Small b:=by
 obtain⟨⟨h1,h2,h3,h4,h5,_⟩,_⟩:=h
 have a:=h1.1
 have b:=h2.1
 have c:=h3.1
 have d:=h4.1
 have e:=h5.1
 exact⟨by omega,by omega,by omega,by omega,by omega⟩
end Ans
namespace Trd
open Bks Tup8
open Bals (T3)
open Lots (NoOk)
def IsAt(ps:List T8)(no:Int)(k:Nat):Prop:=k<ps.length∧(el8 ps k).1=no∧∀j,j<k→(el8 ps j).1≠no
def NoneAt(ps:List T8)(no:Int):Prop:=∀j,j<ps.length→(el8 ps j).1≠no
theorem IsAt.same{ps:List T8}{no:Int}{k l:Nat}(h:IsAt ps no k)(g:IsAt ps no l):k=l:=by
 rcases Nat.lt_trichotomy k l with a|a|a
 ·exact absurd h.2.1 (g.2.2 k a)
 ·exact a
 ·exact absurd g.2.1 (h.2.2 l a)
theorem IsAt.not{ps:List T8}{no:Int}{k:Nat}(h:IsAt ps no k)(g:NoneAt ps no):False:=g k h.1 h.2.1
theorem asc{ps:List T8}(h:TRight ps):∀j i,i<j→j<ps.length→(el8 ps i).1<(el8 ps j).1:=by
 intro j
 induction j with
 |zero=>intro i hi;omega
 |succ j ih=>
  intro i hi hj
  have s:=(h.2 (j+1) hj).2 (by omega)
  rw[Nat.add_sub_cancel] at s
  by_cases e:i=j
  ·subst e;exact s
  ·have:=ih i (by omega) (by omega)
   omega
def insT(t:T8):List T8→List T8
 |[]=>[t]
 |p::r=>if t.1<p.1 then t::p::r else p::insT t r
def inState(p:T8)(s:Int):T8:=(p.1,p.2.1,p.2.2.1,p.2.2.2.1,p.2.2.2.2.1,p.2.2.2.2.2.1,p.2.2.2.2.2.2.1,s)
def setState(ps:List T8)(k:Nat)(s:Int):List T8:=ps.modify k (fun p=>inState p s)
theorem set_len(ps:List T8)(k:Nat)(s:Int):(setState ps k s).length=ps.length:=by simp[setState]
def NoneT(b:Bk)(x y p m:Int):Prop:=kindOf b.ac x=0∨kindOf b.ac y=0∨kindOf b.ic p=0∨kindOf b.ic m=0
def KindT(b:Bk)(x y p m:Int):Prop:=kindOf b.ac x≠1∨kindOf b.ac y≠1∨x=y∨kindOf b.ic p≠2∨kindOf b.ic m≠1
def IsTrade(b:Bk)(no x y p q m pr:Int)(b':Bk)(c:Int):Prop:=
 ((∃k,IsAt b.ts no k)∧b'=b∧c=2)∨
 (NoneAt b.ts no∧NoneT b x y p m∧b'=b∧c=3)∨
 (NoneAt b.ts no∧¬NoneT b x y p m∧KindT b x y p m∧b'=b∧c=4)∨
 (NoneAt b.ts no∧¬NoneT b x y p m∧¬KindT b x y p m∧b.ts.length=30∧b'=b∧c=7)∨
 (NoneAt b.ts no∧¬NoneT b x y p m∧¬KindT b x y p m∧b.ts.length≠30∧b'={b with ts:=insT (no,x,y,p,q,m,pr,1) b.ts}∧c=0)
theorem IsTrade.same{b b1 b2:Bk}{no x y p q m pr c1 c2:Int}(h:IsTrade b no x y p q m pr b1 c1)(k:IsTrade b no x y p q m pr b2 c2):b1=b2∧c1=c2:=by
 rcases h with⟨⟨l,h⟩,rfl,rfl⟩|⟨h,h2,rfl,rfl⟩|⟨h,h2,h3,rfl,rfl⟩|⟨h,h2,h3,h4,rfl,rfl⟩|⟨h,h2,h3,h4,rfl,rfl⟩<;>
  rcases k with⟨⟨m,k⟩,rfl,rfl⟩|⟨k,k2,rfl,rfl⟩|⟨k,k2,k3,rfl,rfl⟩|⟨k,k2,k3,k4,rfl,rfl⟩|⟨k,k2,k3,k4,rfl,rfl⟩<;>
  first|exact⟨rfl,rfl⟩|exact(h.not k).elim|exact(k.not h).elim|exact absurd h2 k2|exact absurd k2 h2|exact absurd h3 k3|exact absurd k3 h3|exact absurd h4 k4|exact absurd k4 h4
def IsCancel(b:Bk)(no:Int)(b':Bk)(c:Int):Prop:=
 (NoneAt b.ts no∧b'=b∧c=3)∨
 (∃k,IsAt b.ts no k∧(((el8 b.ts k).2.2.2.2.2.2.2≠1∧b'=b∧c=6)∨((el8 b.ts k).2.2.2.2.2.2.2=1∧b'={b with ts:=setState b.ts k 3}∧c=0)))
theorem IsCancel.same{b b1 b2:Bk}{no c1 c2:Int}(h:IsCancel b no b1 c1)(k:IsCancel b no b2 c2):b1=b2∧c1=c2:=by
 rcases h with⟨h,rfl,rfl⟩|⟨l,h,h'⟩<;>rcases k with⟨k,rfl,rfl⟩|⟨m,k,k'⟩
 ·exact⟨rfl,rfl⟩
 ·exact(k.not h).elim
 ·exact(h.not k).elim
 ·obtain rfl:=h.same k
  rcases h' with⟨h1,rfl,rfl⟩|⟨h1,rfl,rfl⟩<;>rcases k' with⟨k1,rfl,rfl⟩|⟨k1,rfl,rfl⟩<;>first|exact⟨rfl,rfl⟩|exact absurd k1 h1|exact absurd h1 k1
def legsT(t:T8):List T3:=pairL t.2.1 t.2.2.1 t.2.2.2.2.2.1 t.2.2.2.2.2.2.1++pairL t.2.2.1 t.2.1 t.2.2.2.1 t.2.2.2.2.1
def IsSettle(b:Bk)(no way:Int)(b':Bk)(gain c:Int):Prop:=
 (NoneAt b.ts no∧b'=b∧gain=0∧c=3)∨
 (∃k,IsAt b.ts no k∧(((el8 b.ts k).2.2.2.2.2.2.2≠1∧b'=b∧gain=0∧c=6)∨
  ((el8 b.ts k).2.2.2.2.2.2.2=1∧∃b1 c1,IsPosted b (legsT (el8 b.ts k)) b1 c1∧((c1≠0∧b'=b∧gain=0∧c=c1)∨
   (c1=0∧∃b2 k2 c2,IsTake b1 (el8 b.ts k).2.2.1 (el8 b.ts k).2.2.2.1 (el8 b.ts k).2.2.2.2.1 way b2 k2 c2∧((c2≠0∧b'=b∧gain=0∧c=c2)∨
    (c2=0∧∃b3 c3,IsOpen b2 (el8 b.ts k).2.1 (el8 b.ts k).2.2.2.1 (el8 b.ts k).2.2.2.2.1 (el8 b.ts k).2.2.2.2.2.2.1 b3 c3∧((c3≠0∧b'=b∧gain=0∧c=c3)∨
     (c3=0∧b'={b3 with ts:=setState b3.ts k 2}∧gain=IntKind.i64.wrap ((el8 b.ts k).2.2.2.2.2.2.1-k2)∧c=0)))))))))
theorem IsSettle.same{b b1 b2:Bk}{no way g1 g2 c1 c2:Int}(h:IsSettle b no way b1 g1 c1)(k:IsSettle b no way b2 g2 c2):b1=b2∧g1=g2∧c1=c2:=by
 rcases h with⟨h,rfl,rfl,rfl⟩|⟨l,h,h'⟩<;>rcases k with⟨k,rfl,rfl,rfl⟩|⟨m,k,k'⟩
 ·exact⟨rfl,rfl,rfl⟩
 ·exact(k.not h).elim
 ·exact(h.not k).elim
 ·obtain rfl:=h.same k
  rcases h' with⟨h1,rfl,rfl,rfl⟩|⟨h1,d1,e1,hp,h'⟩<;>rcases k' with⟨k1,rfl,rfl,rfl⟩|⟨k1,d2,e2,kp,k'⟩
  ·exact⟨rfl,rfl,rfl⟩
  ·exact absurd k1 h1
  ·exact absurd h1 k1
  ·obtain⟨rfl,rfl⟩:=hp.same kp
   rcases h' with⟨h2,rfl,rfl,rfl⟩|⟨h2,f1,t1,u1,ht,h'⟩<;>rcases k' with⟨k2,rfl,rfl,rfl⟩|⟨k2,f2,t2,u2,kt,k'⟩
   ·exact⟨rfl,rfl,rfl⟩
   ·exact absurd k2 h2
   ·exact absurd h2 k2
   ·obtain⟨rfl,rfl,rfl⟩:=ht.same kt
    rcases h' with⟨h3,rfl,rfl,rfl⟩|⟨h3,p1,q1,ho,h'⟩<;>rcases k' with⟨k3,rfl,rfl,rfl⟩|⟨k3,p2,q2,ko,k'⟩
    ·exact⟨rfl,rfl,rfl⟩
    ·exact absurd k3 h3
    ·exact absurd h3 k3
    ·obtain⟨rfl,rfl⟩:=ho.same ko
     rcases h' with⟨h4,rfl,rfl,rfl⟩|⟨h4,rfl,rfl,rfl⟩<;>rcases k' with⟨k4,rfl,rfl,rfl⟩|⟨k4,rfl,rfl,rfl⟩<;>first|exact⟨rfl,rfl,rfl⟩|exact absurd k4 h4|exact absurd h4 k4
def openT(lo hi:Int):List T8→List Int
 |[]=>[]
 |p::r=>(if p.2.2.2.2.2.2.2=1∧lo≤p.1∧p.1≤hi then[p.1] else[])++openT lo hi r
theorem openT_append(lo hi:Int):∀ps qs:List T8,openT lo hi (ps++qs)=openT lo hi ps++openT lo hi qs
 |[],qs=>rfl
 |p::r,qs=>by simp[openT,openT_append lo hi r qs]
theorem trade_take{ps:List T8}{k:Nat}(h:k<ps.length):ps.take (k+1)=ps.take k++[el8 ps k]:=by
 rw[List.take_succ_eq_append_getElem h]
 simp[el8,List.getD,h]
theorem openT_next{ps:List T8}{k:Nat}(lo hi:Int)(h:k<ps.length):openT lo hi (ps.take (k+1))=openT lo hi (ps.take k)++(if(el8 ps k).2.2.2.2.2.2.2=1∧lo≤(el8 ps k).1∧(el8 ps k).1≤hi then[(el8 ps k).1] else[]):=by
 rw[trade_take h,openT_append]
 simp[openT]
def FoundAt(ps:List T8)(no r:Int):Prop:=(∃k:Nat,IsAt ps no k∧r=k)∨(NoneAt ps no∧r= -1)
def OpenAt(ps:List T8)(no r c:Int):Prop:=(NoneAt ps no∧r= -1∧c=3)∨(∃k:Nat,IsAt ps no k∧r=k∧(((el8 ps k).2.2.2.2.2.2.2≠1∧c=6)∨((el8 ps k).2.2.2.2.2.2.2=1∧c=0)))
def ToldT(b:Bk)(no:Int)(p:T8)(ok:Bool):Prop:=(ok=true∧Ok b∧∃k,IsAt b.ts no k∧p=el8 b.ts k)∨(ok=false∧(¬Ok b∨NoneAt b.ts no)∧p=(0,0,0,0,0,0,0,0))
theorem ToldT.same{b:Bk}{no:Int}{p q:T8}{s t:Bool}(h:ToldT b no p s)(k:ToldT b no q t):p=q∧s=t:=by
 rcases h with⟨rfl,h1,l,h2,rfl⟩|⟨rfl,h1,rfl⟩<;>rcases k with⟨rfl,k1,m,k2,rfl⟩|⟨rfl,k1,rfl⟩
 ·rw[h2.same k2];exact⟨rfl,rfl⟩
 ·rcases k1 with k1|k1
  ·exact absurd h1 k1
  ·exact(h2.not k1).elim
 ·rcases h1 with h1|h1
  ·exact absurd k1 h1
  ·exact(k2.not h1).elim
 ·exact⟨rfl,rfl⟩
end Trd
namespace AnyInv
open Go
section
variable {P:Program} {ops:Array Oper} {Q:Exit→Act→World→Prop} {md:Region.Mode}
theorem ready_mem{listed:Array Bool}{i:Nat}(h:i∈Region.ready md ops listed):∃o,ops[i]?=some o∧i<ops.size∧listed.getD i true=false∧∀e∈o.after,Region.binds md e=true→listed.getD e.on false=true:=by
 unfold Region.ready at h
 rw[List.mem_filter] at h
 obtain⟨h1,h2⟩:=h
 have hi:i<ops.size:=List.mem_range.1 h1
 have ho:ops[i]?=some ops[i]:=Array.getElem?_eq_getElem hi
 refine⟨ops[i],ho,hi,?_,?_⟩
 ·simp only[Bool.and_eq_true,Bool.not_eq_true'] at h2
  exact h2.1
 ·intro e he hb
  rw[ho] at h2
  simp only[Bool.and_eq_true,Option.map_some,Option.getD_some,Array.all_eq_true'] at h2
  have:=h2.2 e he
  simpa[hb] using this
theorem mem_ready{listed:Array Bool}{i:Nat}{o:Oper}(ho:ops[i]?=some o)(hl:listed.getD i true=false)(h:∀e∈o.after,Region.binds md e=true→listed.getD e.on false=true):i∈Region.ready md ops listed:=by
 unfold Region.ready
 rw[List.mem_filter]
 refine⟨List.mem_range.2 (Array.getElem?_eq_some_iff.1 ho).1,?_⟩
 rw[ho]
 simp only[Bool.and_eq_true,Bool.not_eq_true',Option.map_some,Option.getD_some,Array.all_eq_true']
 refine⟨hl,fun e he=>?_⟩
 by_cases hb:Region.binds md e=true
 ·simp[h e he hb]
 ·simp[hb]
theorem wpAny_inv(I:Array Bool→Act→World→Prop)
  (hsz:∀listed a w,I listed a w→listed.size=ops.size)
  (hback:∀i o,ops[i]?=some o→∀e∈o.after,Region.binds md e=true→e.on<i)
  (hstep:∀listed a w i o,I listed a w→ops[i]?=some o→listed.getD i true=false→(∀e∈o.after,Region.binds md e=true→listed.getD e.on false=true)→wpOp P ops Q i (I (listed.setIfInBounds i true)) a w)
  (hdone:∀listed a w,I listed a w→(∀i,i<ops.size→listed.getD i true=true)→Q .normal a w):
  ∀(fuel:Nat) (listed:Array Bool) (a:Act) (w:World) (L:List Nat),I listed a w→L.length≤fuel→(∀i,i<ops.size→listed.getD i true=false→i∈L)→wpAny P md ops Q fuel listed a w:=by
 intro fuel
 induction fuel with
 |zero=>
  intro listed a w L hI hL hM
  have hnil:L=[]:=List.length_eq_zero_iff.1 (by omega)
  subst hnil
  have all:∀i,i<ops.size→listed.getD i true=true:=fun i hi=>by
   cases h:listed.getD i true
   ·exact absurd (hM i hi h) List.not_mem_nil
   ·rfl
  refine⟨?_,hdone _ _ _ hI all⟩
  apply List.eq_nil_iff_forall_not_mem.2
  intro i hi
  obtain⟨o,ho,hlt,hl,_⟩:=ready_mem hi
  rw[all i hlt] at hl
  cases hl
 |succ fuel ih=>
  intro listed a w L hI hL hM
  refine⟨fun hr=>hdone _ _ _ hI ?_,fun i hi=>?_⟩
  ·intro i
   induction i using Nat.strongRecOn with
   |ind i ihi=>
    intro hi
    cases h:listed.getD i true
    ·exfalso
     have ho:ops[i]?=some ops[i]:=Array.getElem?_eq_getElem hi
     have:=mem_ready (md:=md) ho h (fun e he hb=>by
      have hlt:=hback i _ ho e he hb
      have h1:=ihi e.on hlt (by omega)
      have hs:=hsz _ _ _ hI
      have hin:e.on<listed.size:=by omega
      simp only[Array.getD,hin,dite_true] at h1⊢
      exact h1)
     rw[hr] at this
     cases this
    ·rfl
  ·obtain⟨o,ho,hlt,hl,hd⟩:=ready_mem hi
   have hmem:=hM i hlt hl
   refine wpOp_mono (fun a' w' hI'=>ih _ a' w' (L.erase i) hI' ?_ ?_) (hstep listed a w i o hI ho hl hd)
   ·rw[List.length_erase_of_mem hmem]
    omega
   ·intro j hj hjl
    have hs:=hsz _ _ _ hI
    by_cases e:j=i
    ·subst e
     have hin:j<listed.size:=by omega
     simp[Array.getD,hin] at hjl
    ·have:listed.getD j true=false:=by
      have hin:j<listed.size:=by omega
      have ne:i≠j:=fun h=>e h.symm
      simp only[Array.getD,Array.size_setIfInBounds,hin,dite_true] at hjl⊢
      have h2:(listed.setIfInBounds i true)[j]'(by simpa using hin)=listed[j]:=(Array.getElem_setIfInBounds hin).trans (if_neg ne)
      exact h2.symm.trans hjl
     exact(List.mem_erase_of_ne e).2 (hM j hj this)
theorem wp_region_inv(I:Array Bool→Act→World→Prop){id:Nat}{a:Act}{w:World}(hm:P.follows .mixedOrders=true)
  (hsz:∀listed a w,I listed a w→listed.size=ops.size)
  (hback:∀i o,ops[i]?=some o→∀e∈o.after,Region.binds .any e=true→e.on<i)
  (h0:I (Array.replicate ops.size false) a w.drew)
  (hstep:∀listed a w i o,I listed a w→ops[i]?=some o→listed.getD i true=false→(∀e∈o.after,Region.binds .any e=true→listed.getD e.on false=true)→wpOp P ops Q i (I (listed.setIfInBounds i true)) a w)
  (hdone:∀listed a w,I listed a w→(∀i,i<ops.size→listed.getD i true=true)→Q .normal a w):(Code.region id ops true).wp P Q a w:=
 wp_region_any hm (wpAny_inv I hsz hback hstep hdone ops.size _ a _ (List.range ops.size) h0 (by simp) (fun i hi _=>List.mem_range.2 hi))
def backB(ops:Array Oper):Bool:=(List.range ops.size).all fun i=>((ops[i]?).map fun o=>o.after.all fun e=>decide (e.on<i)).getD true
def waitsB(ops:Array Oper)(D:List (List Nat)):Bool:=(List.range ops.size).all fun i=>((ops[i]?).map fun o=>(D.getD i []).all fun j=>o.after.any fun e=>Region.binds .any e&&e.on==j).getD true
theorem back_of{ops:Array Oper}(h:backB ops=true):∀i o,ops[i]?=some o→∀e∈o.after,Region.binds .any e=true→e.on<i:=by
 intro i o ho e he _
 unfold backB at h
 rw[List.all_eq_true] at h
 have:=h i (List.mem_range.2 (Array.getElem?_eq_some_iff.1 ho).1)
 rw[ho] at this
 simp only[Option.map_some,Option.getD_some,Array.all_eq_true'] at this
 exact of_decide_eq_true (this e he)
theorem waits_of{ops:Array Oper}{D:List (List Nat)}(h:waitsB ops D=true){i:Nat}{o:Oper}(ho:ops[i]?=some o){listed:Array Bool}(hd:∀e∈o.after,Region.binds .any e=true→listed.getD e.on false=true):∀j∈D.getD i [],listed.getD j false=true:=by
 intro j hj
 unfold waitsB at h
 rw[List.all_eq_true] at h
 have:=h i (List.mem_range.2 (Array.getElem?_eq_some_iff.1 ho).1)
 rw[ho] at this
 simp only[Option.map_some,Option.getD_some,List.all_eq_true] at this
 have h2:=this j hj
 rw[Array.any_eq_true'] at h2
 obtain⟨e,he,hb⟩:=h2
 simp only[Bool.and_eq_true,beq_iff_eq] at hb
 rw[←hb.2]
 exact hd e he hb.1
theorem wp_region_inv2(D:List (List Nat))(I:Array Bool→Act→World→Prop){id:Nat}{a:Act}{w:World}(hm:P.follows .mixedOrders=true)(hb:backB ops=true)(hw:waitsB ops D=true)
  (hsz:∀listed a w,I listed a w→listed.size=ops.size)
  (h0:I (Array.replicate ops.size false) a w.drew)
  (hstep:∀listed a w i,I listed a w→i<ops.size→listed.getD i true=false→(∀j∈D.getD i [],listed.getD j false=true)→wpOp P ops Q i (I (listed.setIfInBounds i true)) a w)
  (hdone:∀listed a w,I listed a w→(∀i,i<ops.size→listed.getD i true=true)→Q .normal a w):(Code.region id ops true).wp P Q a w:=
 wp_region_inv I hm hsz (back_of hb) h0 (fun listed a w i o hI ho hl hd=>hstep listed a w i hI (Array.getElem?_eq_some_iff.1 ho).1 hl (waits_of hw ho hd)) hdone
theorem wpOp_of{i:Nat}{o:Oper}{K:Act→World→Prop}{a:Act}{w:World}(ho:ops[i]?=some o)(hg:o.guard=none)(h:o.wp P a w K Q):wpOp P ops Q i K a w:=by
 unfold wpOp
 rw[ho]
 have:Region.wanted o (yielded ops a.tmps)=true:=by simp[Region.wanted,hg]
 simp only[this,if_true]
 exact Or.inl h
end
end AnyInv
namespace ICopied
open BMem Bks ILists AnyInv Copy
open BHelp (row_block row_apart)
open IBalsFit (one_more)
def Ch(W:World)(base:Nat)(e:TypeId)(size:Nat)(fb ff fl fa:Bool)(vb vf vl va pf src:Value)(n:Nat)(xs:List Value):Prop:=
 (ff=true→vf=pf)∧(fl=true→vl=src)∧(fb=true→fa=false→∃g,vb= .slice (some ⟨g,0,none⟩) 0 0∧W.ownsRow base e size (.slice (some ⟨g,0,none⟩) 0 0) 0 [])∧(fa=true→∃g c,va= .slice (some ⟨g,0,none⟩) n c∧W.ownsRow base e size (.slice (some ⟨g,0,none⟩) n c) n xs)
section
variable {W W':World} {base:Nat} {e:TypeId} {size:Nat} {fb ff fl fa:Bool} {vb vf vl va pf src:Value} {n:Nat} {xs:List Value}
theorem Ch.zero(W:World)(base:Nat)(e:TypeId)(size:Nat)(vb vf vl va pf src:Value)(n:Nat)(xs:List Value):Ch W base e size false false false false vb vf vl va pf src n xs:=
 ⟨(fun h=>by cases h),(fun h=>by cases h),(fun h=>by cases h),(fun h=>by cases h)⟩
theorem Ch.addr(h:Ch W base e size fb ff fl fa vb vf vl va pf src n xs):Ch W base e size fb true fl fa vb pf vl va pf src n xs:=⟨fun _=>rfl,h.2⟩
theorem Ch.load(h:Ch W base e size fb ff fl fa vb vf vl va pf src n xs):Ch W base e size fb ff true fa vb vf src va pf src n xs:=⟨h.1,fun _=>rfl,h.2.2⟩
theorem Ch.alloc(h:Ch W base e size fb ff fl fa vb vf vl va pf src n xs)(o:Obj):Ch (W.alloc o) base e size fb ff fl fa vb vf vl va pf src n xs:=by
 refine⟨h.1,h.2.1,fun a b=>?_,fun a=>?_⟩
 ·obtain⟨g,e1,o1⟩:=h.2.2.1 a b
  exact⟨g,e1,o1.alloc o⟩
 ·obtain⟨g,c,e1,o1⟩:=h.2.2.2 a
  exact⟨g,c,e1,o1.alloc o⟩
theorem Ch.start(h:Ch W base e size fb ff fl fa vb vf vl va pf src n xs)(hb:base≤W.heap.size):Ch (W.alloc (.cells #[] e)) base e size true ff fl fa (.slice (some ⟨W.heap.size,0,none⟩) 0 0) vf vl va pf src n xs:=by
 refine⟨h.1,h.2.1,fun _ _=>⟨W.heap.size,rfl,World.ownsRow_made W #[] 0 hb (by unfold maxLen;omega) (by simp)⟩,fun a=>?_⟩
 obtain⟨g,c,e1,o1⟩:=h.2.2.2 a
 exact⟨g,c,e1,o1.alloc _⟩
theorem Ch.kept{g0:Nat}(h:Ch W base e size fb ff fl fa vb vf vl va pf src n xs)(k:W.grownBy W' (some g0))(hne:∀(m c:Nat) (ys:List Value),¬W.ownsRow base e size (.slice (some ⟨g0,0,none⟩) m c) m ys):Ch W' base e size fb ff fl fa vb vf vl va pf src n xs:=by
 refine⟨h.1,h.2.1,fun a b=>?_,fun a=>?_⟩
 ·obtain⟨g,e1,o1⟩:=h.2.2.1 a b
  exact⟨g,e1,o1.kept k (Or.inr (fun e=>by
   have:g=g0:=by simpa[Value.ownBlock] using e
   subst this
   exact hne _ _ _ o1))⟩
 ·obtain⟨g,c,e1,o1⟩:=h.2.2.2 a
  exact⟨g,c,e1,o1.kept k (Or.inr (fun e=>by
   have:g=g0:=by simpa[Value.ownBlock] using e
   subst this
   exact hne _ _ _ o1))⟩
theorem Ch.app{g c:Nat}(h:Ch W base e size fb ff fl fa vb vf vl va pf src n xs)(o1:W'.ownsRow base e size (.slice (some ⟨g,0,none⟩) n c) n xs):Ch W' base e size fb ff fl true vb vf vl (.slice (some ⟨g,0,none⟩) n c) pf src n xs:=
 ⟨h.1,h.2.1,(fun _ b=>by cases b),fun _=>⟨g,c,rfl,o1⟩⟩
end
theorem other{W:World}{base base':Nat}{e e':TypeId}{size size':Nat}{g n cap:Nat}{xs:List Value}(h:W.ownsRow base e size (.slice (some ⟨g,0,none⟩) n cap) n xs)(ne:e≠e'):∀(m c:Nat) (ys:List Value),¬W.ownsRow base' e' size' (.slice (some ⟨g,0,none⟩) m c) m ys:=
 fun m c ys k=>row_apart h k ne rfl
def Inv(w:World)(x:Bx)(listed:Array Bool)(a:Act)(W:World):Prop:=
 ∃(b0 b1 b2 b3 b4 b5 b6 b7 b8 b9 b10 b11 b12 b13 b14 b15 b16 b17 b18 b19 b20 b21 b22 b23:Bool) (v3 v4 v5 v6 v7 v8 v9 v10 v11 v12 v13 v14 v15 v16 v17 v18 v19 v20 v21 v22 v23 v24 v25 r0 r1 r2 r3 r4 r5:Value),listed= #[b0,b1,b2,b3,b4,b5,b6,b7,b8,b9,b10,b11,b12,b13,b14,b15,b16,b17,b18,b19,b20,b21,b22,b23]∧a={tmps:= #[.agg #[.slice (some ⟨x.ga,0,none⟩) x.b.ac.length x.ca,.slice (some ⟨x.gi,0,none⟩) x.b.ic.length x.ci,.slice (some ⟨x.gb,0,none⟩) x.b.bs.length x.cb,.slice (some ⟨x.gl,0,none⟩) x.b.ls.length x.cl,.slice (some ⟨x.gt,0,none⟩) x.b.ts.length x.ct,.int .i64 x.b.lot],.pointer (some ⟨w.heap.size,0,none⟩),.pointer (some ⟨w.heap.size+1,0,none⟩),v3,v4,v5,v6,v7,v8,v9,v10,v11,v12,v13,v14,v15,v16,v17,v18,v19,v20,v21,v22,v23,v24,v25],defers:=[]}∧
  Below w.heap.size w W∧Cl W w.heap.size x∧Box W w.heap.size (w.heap.size+1) r0 r1 r2 r3 r4 r5∧
  Ch W (w.heap.size+2) 111 2 b0 b1 b2 b3 v3 v4 v5 v6 (.pointer (some ⟨w.heap.size,0,none⟩)) (.slice (some ⟨x.ga,0,none⟩) x.b.ac.length x.ca) x.b.ac.length (Pairs.flat x.b.ac)∧Ch W (w.heap.size+2) 114 2 b4 b5 b6 b7 v7 v8 v9 v10 (.pointer (some ⟨w.heap.size,1,none⟩)) (.slice (some ⟨x.gi,0,none⟩) x.b.ic.length x.ci) x.b.ic.length (Pairs.flat x.b.ic)∧Ch W (w.heap.size+2) 70 3 b8 b9 b10 b11 v11 v12 v13 v14 (.pointer (some ⟨w.heap.size,2,none⟩)) (.slice (some ⟨x.gb,0,none⟩) x.b.bs.length x.cb) x.b.bs.length (Triples.flat3 x.b.bs)∧Ch W (w.heap.size+2) 120 5 b12 b13 b14 b15 v15 v16 v17 v18 (.pointer (some ⟨w.heap.size,3,none⟩)) (.slice (some ⟨x.gl,0,none⟩) x.b.ls.length x.cl) x.b.ls.length (Tup5.flat5 x.b.ls)∧Ch W (w.heap.size+2) 64 8 b16 b17 b18 b19 v19 v20 v21 v22 (.pointer (some ⟨w.heap.size,4,none⟩)) (.slice (some ⟨x.gt,0,none⟩) x.b.ts.length x.ct) x.b.ts.length (Tup8.flat8 x.b.ts)∧
  (b20=true→v23= .pointer (some ⟨w.heap.size,5,none⟩))∧(b21=true→v24= .int .i64 x.b.lot)∧(b22=true→(b3=true∧b7=true∧b11=true∧b15=true∧b19=true)∧v25= .agg #[v6,v10,v14,v18,v22,.int .i64 x.b.lot])∧(b23=true→b22=true∧r0=v6∧r1=v10∧r2=v14∧r3=v18∧r4=v22∧r5= .int .i64 x.b.lot)
theorem room{w W:World}{r0 r1 r2 r3 r4 r5:Value}(h:Box W w.heap.size (w.heap.size+1) r0 r1 r2 r3 r4 r5):w.heap.size+2≤W.heap.size:=h.lt.2
theorem iCopied(w:World)(x:Bx)(h:Rd w x):
  Calls Tryz.prog 100 #[.agg #[.slice (some ⟨x.ga,0,none⟩) x.b.ac.length x.ca,.slice (some ⟨x.gi,0,none⟩) x.b.ic.length x.ci,.slice (some ⟨x.gb,0,none⟩) x.b.bs.length x.cb,.slice (some ⟨x.gl,0,none⟩) x.b.ls.length x.cl,.slice (some ⟨x.gt,0,none⟩) x.b.ts.length x.ct,.int .i64 x.b.lot]] w fun e w'=>∃z:Bx,z.b=x.b∧e= .returned (.agg #[.slice (some ⟨z.ga,0,none⟩) z.b.ac.length z.ca,.slice (some ⟨z.gi,0,none⟩) z.b.ic.length z.ci,.slice (some ⟨z.gb,0,none⟩) z.b.bs.length z.cb,.slice (some ⟨z.gl,0,none⟩) z.b.ls.length z.cl,.slice (some ⟨z.gt,0,none⟩) z.b.ts.length z.ct,.int .i64 z.b.lot])∧Ow w' w.heap.size z∧Below w.heap.size w w':=by
 have H:=zh h
 clear h
 go_enter Tryz.func100,Tryz.ntmps100
 go_wp2_with fail
 refine wp_region_inv2 [[],[],[1],[0,2],[],[],[5],[4,6],[],[],[9],[8,10],[],[],[13],[12,14],[],[],[17],[16,18],[],[20],[3,7,11,15,19,21],[22]] (Inv w x) (by kernel_rfl) (by kernel_rfl) (by kernel_rfl) ?_ ?_ ?_ ?_
 ·intro listed a W hI
  obtain⟨_,_,_,_,_,_,_,_,_,_,_,_,_,_,_,_,_,_,_,_,_,_,_,_,_,_,_,_,_,_,_,_,_,_,_,_,_,_,_,_,_,_,_,_,_,_,_,_,_,_,_,_,_,rfl,_⟩:=hI
  rfl
 ·have b1:Below w.heap.size w ((w.alloc (.cells #[.slice (some ⟨x.ga,0,none⟩) x.b.ac.length x.ca,.slice (some ⟨x.gi,0,none⟩) x.b.ic.length x.ci,.slice (some ⟨x.gb,0,none⟩) x.b.bs.length x.cb,.slice (some ⟨x.gl,0,none⟩) x.b.ls.length x.cl,.slice (some ⟨x.gt,0,none⟩) x.b.ts.length x.ct,.int .i64 x.b.lot] 40)).alloc (.cells #[.slice none 0 0,.slice none 0 0,.slice none 0 0,.slice none 0 0,.slice none 0 0,.int .i64 0] 40)):=((Below.refl w.heap.size w).alloc (Nat.le_refl _) _).alloc (by simp) _
  have c1:Cl ((w.alloc (.cells #[.slice (some ⟨x.ga,0,none⟩) x.b.ac.length x.ca,.slice (some ⟨x.gi,0,none⟩) x.b.ic.length x.ci,.slice (some ⟨x.gb,0,none⟩) x.b.bs.length x.cb,.slice (some ⟨x.gl,0,none⟩) x.b.ls.length x.cl,.slice (some ⟨x.gt,0,none⟩) x.b.ts.length x.ct,.int .i64 x.b.lot] 40)).alloc (.cells #[.slice none 0 0,.slice none 0 0,.slice none 0 0,.slice none 0 0,.slice none 0 0,.int .i64 0] 40)) w.heap.size x:=(boxed w x 40).below (one_more _ _) (by simp)
  have x1:Box ((w.alloc (.cells #[.slice (some ⟨x.ga,0,none⟩) x.b.ac.length x.ca,.slice (some ⟨x.gi,0,none⟩) x.b.ic.length x.ci,.slice (some ⟨x.gb,0,none⟩) x.b.bs.length x.cb,.slice (some ⟨x.gl,0,none⟩) x.b.ls.length x.cl,.slice (some ⟨x.gt,0,none⟩) x.b.ts.length x.ct,.int .i64 x.b.lot] 40)).alloc (.cells #[.slice none 0 0,.slice none 0 0,.slice none 0 0,.slice none 0 0,.slice none 0 0,.int .i64 0] 40)) w.heap.size (w.heap.size+1) (.slice none 0 0) (.slice none 0 0) (.slice none 0 0) (.slice none 0 0) (.slice none 0 0) (.int .i64 0):=Box.made _ _ _ _ _ _ (by simp) (by simp)
  refine⟨false,false,false,false,false,false,false,false,false,false,false,false,false,false,false,false,false,false,false,false,false,false,false,false,undef,undef,undef,undef,undef,undef,undef,undef,undef,undef,undef,undef,undef,undef,undef,undef,undef,undef,undef,undef,undef,undef,undef,.slice none 0 0,.slice none 0 0,.slice none 0 0,.slice none 0 0,.slice none 0 0,.int .i64 0,rfl,rfl,b1.drew,⟨c1.c0,c1.c1,c1.c2,c1.c3,c1.c4,c1.c5⟩,x1,Ch.zero _ _ _ _ _ _ _ _ _ _ _ _,Ch.zero _ _ _ _ _ _ _ _ _ _ _ _,Ch.zero _ _ _ _ _ _ _ _ _ _ _ _,Ch.zero _ _ _ _ _ _ _ _ _ _ _ _,Ch.zero _ _ _ _ _ _ _ _ _ _ _ _,(fun h=>by cases h),(fun h=>by cases h),(fun h=>by cases h),(fun h=>by cases h)⟩
 ·intro listed a W i hI hi hl hd
  replace hi:i<24:=hi
  obtain⟨b0,b1,b2,b3,b4,b5,b6,b7,b8,b9,b10,b11,b12,b13,b14,b15,b16,b17,b18,b19,b20,b21,b22,b23,v3,v4,v5,v6,v7,v8,v9,v10,v11,v12,v13,v14,v15,v16,v17,v18,v19,v20,v21,v22,v23,v24,v25,r0,r1,r2,r3,r4,r5,rfl,rfl,hB,hC,hR,h0,h1,h2,h3,h4,e20,e21,e22,e23⟩:=hI
  have hrm:=room hR
  have zb:w.heap.size<W.heap.size:=by omega
  rcases(show i=0∨i=1∨i=2∨i=3∨i=4∨i=5∨i=6∨i=7∨i=8∨i=9∨i=10∨i=11∨i=12∨i=13∨i=14∨i=15∨i=16∨i=17∨i=18∨i=19∨i=20∨i=21∨i=22∨i=23 by omega) with rfl|rfl|rfl|rfl|rfl|rfl|rfl|rfl|rfl|rfl|rfl|rfl|rfl|rfl|rfl|rfl|rfl|rfl|rfl|rfl|rfl|rfl|rfl|rfl
  ·refine wpOp_of rfl rfl ?_
   go_simp
   exact⟨true,b1,b2,b3,b4,b5,b6,b7,b8,b9,b10,b11,b12,b13,b14,b15,b16,b17,b18,b19,b20,b21,b22,b23,_,v4,v5,v6,v7,v8,v9,v10,v11,v12,v13,v14,v15,v16,v17,v18,v19,v20,v21,v22,v23,v24,v25,r0,r1,r2,r3,r4,r5,rfl,rfl,hB.alloc (by omega) _,hC.below (one_more _ _) zb,hR.below (one_more _ _) hR.lt.2,h0.start hrm,h1.alloc _,h2.alloc _,h3.alloc _,h4.alloc _,e20,e21,e22,e23⟩
  ·refine wpOp_of rfl rfl ?_
   go_simp
   exact⟨b0,true,b2,b3,b4,b5,b6,b7,b8,b9,b10,b11,b12,b13,b14,b15,b16,b17,b18,b19,b20,b21,b22,b23,v3,_,v5,v6,v7,v8,v9,v10,v11,v12,v13,v14,v15,v16,v17,v18,v19,v20,v21,v22,v23,v24,v25,r0,r1,r2,r3,r4,r5,rfl,rfl,hB,hC,hR,h0.addr,h1,h2,h3,h4,e20,e21,e22,e23⟩
  ·have q1:b1=true:=hd 1 (by simp)
   have q2:=h0.1 q1
   subst q1 q2
   have c:=hC.c0
   refine wpOp_of rfl rfl ?_
   go_simp
   exact⟨b0,true,true,b3,b4,b5,b6,b7,b8,b9,b10,b11,b12,b13,b14,b15,b16,b17,b18,b19,b20,b21,b22,b23,v3,_,_,v6,v7,v8,v9,v10,v11,v12,v13,v14,v15,v16,v17,v18,v19,v20,v21,v22,v23,v24,v25,r0,r1,r2,r3,r4,r5,rfl,rfl,hB,hC,hR,h0.load,h1,h2,h3,h4,e20,e21,e22,e23⟩
  ·have q1:b0=true:=hd 0 (by simp)
   have q2:b2=true:=hd 2 (by simp)
   have q3:b3=false:=hl
   obtain⟨g,ev,orow⟩:=h0.2.2.1 q1 q3
   have es:=h0.2.1 q2
   subst ev es
   obtain⟨g',c',W',hrun,ow,gr,_⟩:=copyAccount W (w.heap.size+2) g 0 orow 34 x.ga x.ca x.b.ac ((zu H).below hB).ra (zu H).na hrm
   have gl:=World.ownsRow.lt orow g rfl
   have n0:some w.heap.size≠some g:=fun e=>by injection e;omega
   have n1:some (w.heap.size+1)≠some g:=fun e=>by injection e;omega
   have f22:b22=true→False:=fun e=>by have:=(e22 e).1;rw[q3] at this;simp at this
   have hBk:=hB.grown gr (by omega) (fun k e=>by injection e;omega)
   have hCk:Cl W' w.heap.size x:=⟨gr.cell hC.c0 n0,gr.cell hC.c1 n0,gr.cell hC.c2 n0,gr.cell hC.c3 n0,gr.cell hC.c4 n0,gr.cell hC.c5 n0⟩
   refine wpOp_of rfl rfl ?_
   refine wpo_append (.tmp 3) (.tmp 5) 34 rfl rfl rfl hrun ?_
   exact⟨b0,b1,b2,true,b4,b5,b6,b7,b8,b9,b10,b11,b12,b13,b14,b15,b16,b17,b18,b19,b20,b21,b22,b23,_,v4,_,_,v7,v8,v9,v10,v11,v12,v13,v14,v15,v16,v17,v18,v19,v20,v21,v22,v23,v24,v25,r0,r1,r2,r3,r4,r5,rfl,rfl,hBk,hCk,hR.kept gr n1,h0.app ow,h1.kept gr (other orow (by decide)),h2.kept gr (other orow (by decide)),h3.kept gr (other orow (by decide)),h4.kept gr (other orow (by decide)),e20,e21,fun e=>(f22 e).elim,fun e=>(f22 (e23 e).1).elim⟩
  ·refine wpOp_of rfl rfl ?_
   go_simp
   exact⟨b0,b1,b2,b3,true,b5,b6,b7,b8,b9,b10,b11,b12,b13,b14,b15,b16,b17,b18,b19,b20,b21,b22,b23,v3,v4,v5,v6,_,v8,v9,v10,v11,v12,v13,v14,v15,v16,v17,v18,v19,v20,v21,v22,v23,v24,v25,r0,r1,r2,r3,r4,r5,rfl,rfl,hB.alloc (by omega) _,hC.below (one_more _ _) zb,hR.below (one_more _ _) hR.lt.2,h0.alloc _,h1.start hrm,h2.alloc _,h3.alloc _,h4.alloc _,e20,e21,e22,e23⟩
  ·refine wpOp_of rfl rfl ?_
   go_simp
   exact⟨b0,b1,b2,b3,b4,true,b6,b7,b8,b9,b10,b11,b12,b13,b14,b15,b16,b17,b18,b19,b20,b21,b22,b23,v3,v4,v5,v6,v7,_,v9,v10,v11,v12,v13,v14,v15,v16,v17,v18,v19,v20,v21,v22,v23,v24,v25,r0,r1,r2,r3,r4,r5,rfl,rfl,hB,hC,hR,h0,h1.addr,h2,h3,h4,e20,e21,e22,e23⟩
  ·have q1:b5=true:=hd 5 (by simp)
   have q2:=h1.1 q1
   subst q1 q2
   have c:=hC.c1
   refine wpOp_of rfl rfl ?_
   go_simp
   exact⟨b0,b1,b2,b3,b4,true,true,b7,b8,b9,b10,b11,b12,b13,b14,b15,b16,b17,b18,b19,b20,b21,b22,b23,v3,v4,v5,v6,v7,_,_,v10,v11,v12,v13,v14,v15,v16,v17,v18,v19,v20,v21,v22,v23,v24,v25,r0,r1,r2,r3,r4,r5,rfl,rfl,hB,hC,hR,h0,h1.load,h2,h3,h4,e20,e21,e22,e23⟩
  ·have q1:b4=true:=hd 4 (by simp)
   have q2:b6=true:=hd 6 (by simp)
   have q3:b7=false:=hl
   obtain⟨g,ev,orow⟩:=h1.2.2.1 q1 q3
   have es:=h1.2.1 q2
   subst ev es
   obtain⟨g',c',W',hrun,ow,gr,_⟩:=copyInstr W (w.heap.size+2) g 0 orow 35 x.gi x.ci x.b.ic ((zu H).below hB).ri (zu H).ni hrm
   have gl:=World.ownsRow.lt orow g rfl
   have n0:some w.heap.size≠some g:=fun e=>by injection e;omega
   have n1:some (w.heap.size+1)≠some g:=fun e=>by injection e;omega
   have f22:b22=true→False:=fun e=>by have:=(e22 e).1;rw[q3] at this;simp at this
   have hBk:=hB.grown gr (by omega) (fun k e=>by injection e;omega)
   have hCk:Cl W' w.heap.size x:=⟨gr.cell hC.c0 n0,gr.cell hC.c1 n0,gr.cell hC.c2 n0,gr.cell hC.c3 n0,gr.cell hC.c4 n0,gr.cell hC.c5 n0⟩
   refine wpOp_of rfl rfl ?_
   refine wpo_append (.tmp 7) (.tmp 9) 35 rfl rfl rfl hrun ?_
   exact⟨b0,b1,b2,b3,b4,b5,b6,true,b8,b9,b10,b11,b12,b13,b14,b15,b16,b17,b18,b19,b20,b21,b22,b23,v3,v4,v5,v6,_,v8,_,_,v11,v12,v13,v14,v15,v16,v17,v18,v19,v20,v21,v22,v23,v24,v25,r0,r1,r2,r3,r4,r5,rfl,rfl,hBk,hCk,hR.kept gr n1,h0.kept gr (other orow (by decide)),h1.app ow,h2.kept gr (other orow (by decide)),h3.kept gr (other orow (by decide)),h4.kept gr (other orow (by decide)),e20,e21,fun e=>(f22 e).elim,fun e=>(f22 (e23 e).1).elim⟩
  ·refine wpOp_of rfl rfl ?_
   go_simp
   exact⟨b0,b1,b2,b3,b4,b5,b6,b7,true,b9,b10,b11,b12,b13,b14,b15,b16,b17,b18,b19,b20,b21,b22,b23,v3,v4,v5,v6,v7,v8,v9,v10,_,v12,v13,v14,v15,v16,v17,v18,v19,v20,v21,v22,v23,v24,v25,r0,r1,r2,r3,r4,r5,rfl,rfl,hB.alloc (by omega) _,hC.below (one_more _ _) zb,hR.below (one_more _ _) hR.lt.2,h0.alloc _,h1.alloc _,h2.start hrm,h3.alloc _,h4.alloc _,e20,e21,e22,e23⟩
  ·refine wpOp_of rfl rfl ?_
   go_simp
   exact⟨b0,b1,b2,b3,b4,b5,b6,b7,b8,true,b10,b11,b12,b13,b14,b15,b16,b17,b18,b19,b20,b21,b22,b23,v3,v4,v5,v6,v7,v8,v9,v10,v11,_,v13,v14,v15,v16,v17,v18,v19,v20,v21,v22,v23,v24,v25,r0,r1,r2,r3,r4,r5,rfl,rfl,hB,hC,hR,h0,h1,h2.addr,h3,h4,e20,e21,e22,e23⟩
  ·have q1:b9=true:=hd 9 (by simp)
   have q2:=h2.1 q1
   subst q1 q2
   have c:=hC.c2
   refine wpOp_of rfl rfl ?_
   go_simp
   exact⟨b0,b1,b2,b3,b4,b5,b6,b7,b8,true,true,b11,b12,b13,b14,b15,b16,b17,b18,b19,b20,b21,b22,b23,v3,v4,v5,v6,v7,v8,v9,v10,v11,_,_,v14,v15,v16,v17,v18,v19,v20,v21,v22,v23,v24,v25,r0,r1,r2,r3,r4,r5,rfl,rfl,hB,hC,hR,h0,h1,h2.load,h3,h4,e20,e21,e22,e23⟩
  ·have q1:b8=true:=hd 8 (by simp)
   have q2:b10=true:=hd 10 (by simp)
   have q3:b11=false:=hl
   obtain⟨g,ev,orow⟩:=h2.2.2.1 q1 q3
   have es:=h2.2.1 q2
   subst ev es
   obtain⟨g',c',W',hrun,ow,gr,_⟩:=copyBal W (w.heap.size+2) g 0 orow 36 x.gb x.cb x.b.bs ((zu H).below hB).rb (zu H).nb hrm
   have gl:=World.ownsRow.lt orow g rfl
   have n0:some w.heap.size≠some g:=fun e=>by injection e;omega
   have n1:some (w.heap.size+1)≠some g:=fun e=>by injection e;omega
   have f22:b22=true→False:=fun e=>by have:=(e22 e).1;rw[q3] at this;simp at this
   have hBk:=hB.grown gr (by omega) (fun k e=>by injection e;omega)
   have hCk:Cl W' w.heap.size x:=⟨gr.cell hC.c0 n0,gr.cell hC.c1 n0,gr.cell hC.c2 n0,gr.cell hC.c3 n0,gr.cell hC.c4 n0,gr.cell hC.c5 n0⟩
   refine wpOp_of rfl rfl ?_
   refine wpo_append (.tmp 11) (.tmp 13) 36 rfl rfl rfl hrun ?_
   exact⟨b0,b1,b2,b3,b4,b5,b6,b7,b8,b9,b10,true,b12,b13,b14,b15,b16,b17,b18,b19,b20,b21,b22,b23,v3,v4,v5,v6,v7,v8,v9,v10,_,v12,_,_,v15,v16,v17,v18,v19,v20,v21,v22,v23,v24,v25,r0,r1,r2,r3,r4,r5,rfl,rfl,hBk,hCk,hR.kept gr n1,h0.kept gr (other orow (by decide)),h1.kept gr (other orow (by decide)),h2.app ow,h3.kept gr (other orow (by decide)),h4.kept gr (other orow (by decide)),e20,e21,fun e=>(f22 e).elim,fun e=>(f22 (e23 e).1).elim⟩
  ·refine wpOp_of rfl rfl ?_
   go_simp
   exact⟨b0,b1,b2,b3,b4,b5,b6,b7,b8,b9,b10,b11,true,b13,b14,b15,b16,b17,b18,b19,b20,b21,b22,b23,v3,v4,v5,v6,v7,v8,v9,v10,v11,v12,v13,v14,_,v16,v17,v18,v19,v20,v21,v22,v23,v24,v25,r0,r1,r2,r3,r4,r5,rfl,rfl,hB.alloc (by omega) _,hC.below (one_more _ _) zb,hR.below (one_more _ _) hR.lt.2,h0.alloc _,h1.alloc _,h2.alloc _,h3.start hrm,h4.alloc _,e20,e21,e22,e23⟩
  ·refine wpOp_of rfl rfl ?_
   go_simp
   exact⟨b0,b1,b2,b3,b4,b5,b6,b7,b8,b9,b10,b11,b12,true,b14,b15,b16,b17,b18,b19,b20,b21,b22,b23,v3,v4,v5,v6,v7,v8,v9,v10,v11,v12,v13,v14,v15,_,v17,v18,v19,v20,v21,v22,v23,v24,v25,r0,r1,r2,r3,r4,r5,rfl,rfl,hB,hC,hR,h0,h1,h2,h3.addr,h4,e20,e21,e22,e23⟩
  ·have q1:b13=true:=hd 13 (by simp)
   have q2:=h3.1 q1
   subst q1 q2
   have c:=hC.c3
   refine wpOp_of rfl rfl ?_
   go_simp
   exact⟨b0,b1,b2,b3,b4,b5,b6,b7,b8,b9,b10,b11,b12,true,true,b15,b16,b17,b18,b19,b20,b21,b22,b23,v3,v4,v5,v6,v7,v8,v9,v10,v11,v12,v13,v14,v15,_,_,v18,v19,v20,v21,v22,v23,v24,v25,r0,r1,r2,r3,r4,r5,rfl,rfl,hB,hC,hR,h0,h1,h2,h3.load,h4,e20,e21,e22,e23⟩
  ·have q1:b12=true:=hd 12 (by simp)
   have q2:b14=true:=hd 14 (by simp)
   have q3:b15=false:=hl
   obtain⟨g,ev,orow⟩:=h3.2.2.1 q1 q3
   have es:=h3.2.1 q2
   subst ev es
   obtain⟨g',c',W',hrun,ow,gr,_⟩:=copyLot W (w.heap.size+2) g 0 orow 37 x.gl x.cl x.b.ls ((zu H).below hB).rl (zu H).nl hrm
   have gl:=World.ownsRow.lt orow g rfl
   have n0:some w.heap.size≠some g:=fun e=>by injection e;omega
   have n1:some (w.heap.size+1)≠some g:=fun e=>by injection e;omega
   have f22:b22=true→False:=fun e=>by have:=(e22 e).1;rw[q3] at this;simp at this
   have hBk:=hB.grown gr (by omega) (fun k e=>by injection e;omega)
   have hCk:Cl W' w.heap.size x:=⟨gr.cell hC.c0 n0,gr.cell hC.c1 n0,gr.cell hC.c2 n0,gr.cell hC.c3 n0,gr.cell hC.c4 n0,gr.cell hC.c5 n0⟩
   refine wpOp_of rfl rfl ?_
   refine wpo_append (.tmp 15) (.tmp 17) 37 rfl rfl rfl hrun ?_
   exact⟨b0,b1,b2,b3,b4,b5,b6,b7,b8,b9,b10,b11,b12,b13,b14,true,b16,b17,b18,b19,b20,b21,b22,b23,v3,v4,v5,v6,v7,v8,v9,v10,v11,v12,v13,v14,_,v16,_,_,v19,v20,v21,v22,v23,v24,v25,r0,r1,r2,r3,r4,r5,rfl,rfl,hBk,hCk,hR.kept gr n1,h0.kept gr (other orow (by decide)),h1.kept gr (other orow (by decide)),h2.kept gr (other orow (by decide)),h3.app ow,h4.kept gr (other orow (by decide)),e20,e21,fun e=>(f22 e).elim,fun e=>(f22 (e23 e).1).elim⟩
  ·refine wpOp_of rfl rfl ?_
   go_simp
   exact⟨b0,b1,b2,b3,b4,b5,b6,b7,b8,b9,b10,b11,b12,b13,b14,b15,true,b17,b18,b19,b20,b21,b22,b23,v3,v4,v5,v6,v7,v8,v9,v10,v11,v12,v13,v14,v15,v16,v17,v18,_,v20,v21,v22,v23,v24,v25,r0,r1,r2,r3,r4,r5,rfl,rfl,hB.alloc (by omega) _,hC.below (one_more _ _) zb,hR.below (one_more _ _) hR.lt.2,h0.alloc _,h1.alloc _,h2.alloc _,h3.alloc _,h4.start hrm,e20,e21,e22,e23⟩
  ·refine wpOp_of rfl rfl ?_
   go_simp
   exact⟨b0,b1,b2,b3,b4,b5,b6,b7,b8,b9,b10,b11,b12,b13,b14,b15,b16,true,b18,b19,b20,b21,b22,b23,v3,v4,v5,v6,v7,v8,v9,v10,v11,v12,v13,v14,v15,v16,v17,v18,v19,_,v21,v22,v23,v24,v25,r0,r1,r2,r3,r4,r5,rfl,rfl,hB,hC,hR,h0,h1,h2,h3,h4.addr,e20,e21,e22,e23⟩
  ·have q1:b17=true:=hd 17 (by simp)
   have q2:=h4.1 q1
   subst q1 q2
   have c:=hC.c4
   refine wpOp_of rfl rfl ?_
   go_simp
   exact⟨b0,b1,b2,b3,b4,b5,b6,b7,b8,b9,b10,b11,b12,b13,b14,b15,b16,true,true,b19,b20,b21,b22,b23,v3,v4,v5,v6,v7,v8,v9,v10,v11,v12,v13,v14,v15,v16,v17,v18,v19,_,_,v22,v23,v24,v25,r0,r1,r2,r3,r4,r5,rfl,rfl,hB,hC,hR,h0,h1,h2,h3,h4.load,e20,e21,e22,e23⟩
  ·have q1:b16=true:=hd 16 (by simp)
   have q2:b18=true:=hd 18 (by simp)
   have q3:b19=false:=hl
   obtain⟨g,ev,orow⟩:=h4.2.2.1 q1 q3
   have es:=h4.2.1 q2
   subst ev es
   obtain⟨g',c',W',hrun,ow,gr,_⟩:=copyTrade W (w.heap.size+2) g 0 orow 38 x.gt x.ct x.b.ts ((zu H).below hB).rt (zu H).nt hrm
   have gl:=World.ownsRow.lt orow g rfl
   have n0:some w.heap.size≠some g:=fun e=>by injection e;omega
   have n1:some (w.heap.size+1)≠some g:=fun e=>by injection e;omega
   have f22:b22=true→False:=fun e=>by have:=(e22 e).1;rw[q3] at this;simp at this
   have hBk:=hB.grown gr (by omega) (fun k e=>by injection e;omega)
   have hCk:Cl W' w.heap.size x:=⟨gr.cell hC.c0 n0,gr.cell hC.c1 n0,gr.cell hC.c2 n0,gr.cell hC.c3 n0,gr.cell hC.c4 n0,gr.cell hC.c5 n0⟩
   refine wpOp_of rfl rfl ?_
   refine wpo_append (.tmp 19) (.tmp 21) 38 rfl rfl rfl hrun ?_
   exact⟨b0,b1,b2,b3,b4,b5,b6,b7,b8,b9,b10,b11,b12,b13,b14,b15,b16,b17,b18,true,b20,b21,b22,b23,v3,v4,v5,v6,v7,v8,v9,v10,v11,v12,v13,v14,v15,v16,v17,v18,_,v20,_,_,v23,v24,v25,r0,r1,r2,r3,r4,r5,rfl,rfl,hBk,hCk,hR.kept gr n1,h0.kept gr (other orow (by decide)),h1.kept gr (other orow (by decide)),h2.kept gr (other orow (by decide)),h3.kept gr (other orow (by decide)),h4.app ow,e20,e21,fun e=>(f22 e).elim,fun e=>(f22 (e23 e).1).elim⟩
  ·refine wpOp_of rfl rfl ?_
   go_simp
   exact⟨b0,b1,b2,b3,b4,b5,b6,b7,b8,b9,b10,b11,b12,b13,b14,b15,b16,b17,b18,b19,true,b21,b22,b23,v3,v4,v5,v6,v7,v8,v9,v10,v11,v12,v13,v14,v15,v16,v17,v18,v19,v20,v21,v22,_,v24,v25,r0,r1,r2,r3,r4,r5,rfl,rfl,hB,hC,hR,h0,h1,h2,h3,h4,fun _=>rfl,e21,e22,e23⟩
  ·have q1:b20=true:=hd 20 (by simp)
   have q2:=e20 q1
   subst q1 q2
   have c:=hC.c5
   refine wpOp_of rfl rfl ?_
   go_simp
   exact⟨b0,b1,b2,b3,b4,b5,b6,b7,b8,b9,b10,b11,b12,b13,b14,b15,b16,b17,b18,b19,true,true,b22,b23,v3,v4,v5,v6,v7,v8,v9,v10,v11,v12,v13,v14,v15,v16,v17,v18,v19,v20,v21,v22,_,_,v25,r0,r1,r2,r3,r4,r5,rfl,rfl,hB,hC,hR,h0,h1,h2,h3,h4,e20,fun _=>rfl,e22,e23⟩
  ·have q3:b3=true:=hd 3 (by simp)
   have q7:b7=true:=hd 7 (by simp)
   have q11:b11=true:=hd 11 (by simp)
   have q15:b15=true:=hd 15 (by simp)
   have q19:b19=true:=hd 19 (by simp)
   have q21:b21=true:=hd 21 (by simp)
   have q22:b22=false:=hl
   have ev:=e21 q21
   subst ev
   obtain⟨g0,c0,z0,_⟩:=h0.2.2.2 q3
   obtain⟨g1,c1,z1,_⟩:=h1.2.2.2 q7
   obtain⟨g2,c2,z2,_⟩:=h2.2.2.2 q11
   obtain⟨g3,c3,z3,_⟩:=h3.2.2.2 q15
   obtain⟨g4,c4,z4,_⟩:=h4.2.2.2 q19
   subst z0 z1 z2 z3 z4
   have f23:b23=true→False:=fun e=>by have:=(e23 e).1;rw[q22] at this;cases this
   refine wpOp_of rfl rfl ?_
   have Q3:=zh q3
   have Q7:=zh q7
   have Q11:=zh q11
   have Q15:=zh q15
   have Q19:=zh q19
   clear q3 q7 q11 q15 q19 q21 q22 hl hd
   go_simp
   exact⟨b0,b1,b2,b3,b4,b5,b6,b7,b8,b9,b10,b11,b12,b13,b14,b15,b16,b17,b18,b19,b20,b21,true,b23,v3,v4,v5,_,v7,v8,v9,_,v11,v12,v13,_,v15,v16,v17,_,v19,v20,v21,_,v23,_,_,r0,r1,r2,r3,r4,r5,rfl,rfl,hB,hC,hR,h0,h1,h2,h3,h4,e20,fun _=>rfl,fun _=>⟨⟨zu Q3,zu Q7,zu Q11,zu Q15,zu Q19⟩,rfl⟩,fun e=>(f23 e).elim⟩
  ·have q22:b22=true:=hd 22 (by simp)
   obtain⟨Q,ev⟩:=e22 q22
   subst ev
   obtain⟨g0,c0,z0,_⟩:=h0.2.2.2 Q.1
   obtain⟨g1,c1,z1,_⟩:=h1.2.2.2 Q.2.1
   obtain⟨g2,c2,z2,_⟩:=h2.2.2.2 Q.2.2.1
   obtain⟨g3,c3,z3,_⟩:=h3.2.2.2 Q.2.2.2.1
   obtain⟨g4,c4,z4,_⟩:=h4.2.2.2 Q.2.2.2.2
   subst z0 z1 z2 z3 z4
   have Q22:=zh q22
   have QQ:=zh Q
   obtain⟨s0,y0⟩:=hR.set0 (.slice (some ⟨g0,0,none⟩) x.b.ac.length c0)
   obtain⟨s1,y1⟩:=s0.set1 (.slice (some ⟨g1,0,none⟩) x.b.ic.length c1)
   obtain⟨s2,y2⟩:=s1.set2 (.slice (some ⟨g2,0,none⟩) x.b.bs.length c2)
   obtain⟨s3,y3⟩:=s2.set3 (.slice (some ⟨g3,0,none⟩) x.b.ls.length c3)
   obtain⟨s4,y4⟩:=s3.set4 (.slice (some ⟨g4,0,none⟩) x.b.ts.length c4)
   obtain⟨s5,y5⟩:=s4.set5 (.int .i64 x.b.lot)
   have gg:=Pairs.grown_trans (Pairs.grown_trans (Pairs.grown_trans (Pairs.grown_trans (Pairs.grown_trans y0 y1) y2) y3) y4) y5
   obtain⟨k0,k1,k2,k3,k4,k5,f0,f1,f2,f3,f4,f5⟩:=Box.all hR
   have n0:some w.heap.size≠some (w.heap.size+1):=fun e=>by injection e;omega
   have hBk:=hB.grown gg (by omega) (fun k e=>by injection e;omega)
   have hCk:Cl _ w.heap.size x:=⟨gg.cell hC.c0 n0,gg.cell hC.c1 n0,gg.cell hC.c2 n0,gg.cell hC.c3 n0,gg.cell hC.c4 n0,gg.cell hC.c5 n0⟩
   have S5:=zh s5
   have BK:=zh hBk
   have CK:=zh hCk
   have GG:=zh gg
   have OT:=zh (show ∀(e':TypeId) (size':Nat),40≠e'→∀(m c:Nat) (ys:List Value),¬W.ownsRow (w.heap.size+2) e' size' (.slice (some ⟨w.heap.size+1,0,none⟩) m c) m ys from fun e' size' ne=>other hR ne)
   refine wpOp_of rfl rfl ?_
   clear q22 Q s0 s1 s2 s3 s4 s5 y0 y1 y2 y3 y4 y5 gg hBk hCk hl hd
   go_simp
   exact⟨b0,b1,b2,b3,b4,b5,b6,b7,b8,b9,b10,b11,b12,b13,b14,b15,b16,b17,b18,b19,b20,b21,b22,true,v3,v4,v5,_,v7,v8,v9,_,v11,v12,v13,_,v15,v16,v17,_,v19,v20,v21,_,v23,v24,_,_,_,_,_,_,.int .i64 x.b.lot,rfl,rfl,zu BK,zu CK,zu S5,h0.kept (zu GG) ((zu OT) _ _ (by decide)),h1.kept (zu GG) ((zu OT) _ _ (by decide)),h2.kept (zu GG) ((zu OT) _ _ (by decide)),h3.kept (zu GG) ((zu OT) _ _ (by decide)),h4.kept (zu GG) ((zu OT) _ _ (by decide)),e20,e21,fun _=>⟨zu QQ,rfl⟩,fun _=>⟨zu Q22,rfl,rfl,rfl,rfl,rfl,rfl⟩⟩
 ·intro listed a W hI hall
  obtain⟨b0,b1,b2,b3,b4,b5,b6,b7,b8,b9,b10,b11,b12,b13,b14,b15,b16,b17,b18,b19,b20,b21,b22,b23,v3,v4,v5,v6,v7,v8,v9,v10,v11,v12,v13,v14,v15,v16,v17,v18,v19,v20,v21,v22,v23,v24,v25,r0,r1,r2,r3,r4,r5,rfl,rfl,hB,hC,hR,h0,h1,h2,h3,h4,e20,e21,e22,e23⟩:=hI
  have q23:b23=true:=hall 23 (by simp)
  obtain⟨q22,rfl,rfl,rfl,rfl,rfl,rfl⟩:=e23 q23
  obtain⟨⟨q3,q7,q11,q15,q19⟩,rfl⟩:=e22 q22
  obtain⟨g0,c0,rfl,o0⟩:=h0.2.2.2 q3
  obtain⟨g1,c1,rfl,o1⟩:=h1.2.2.2 q7
  obtain⟨g2,c2,rfl,o2⟩:=h2.2.2.2 q11
  obtain⟨g3,c3,rfl,o3⟩:=h3.2.2.2 q15
  obtain⟨g4,c4,rfl,o4⟩:=h4.2.2.2 q19
  have k0:=hR.c0
  have k1:=hR.c1
  have k2:=hR.c2
  have k3:=hR.c3
  have k4:=hR.c4
  have k5:=hR.c5
  have OO:=zh (show Ow W w.heap.size ⟨g0,c0,g1,c1,g2,c2,g3,c3,g4,c4,x.b⟩ from Ow.rebase (base:=w.heap.size+2) ⟨o0,o1,o2,o3,o4⟩ (by omega))
  have BB:=zh hB
  clear h0 h1 h2 h3 h4 e20 e21 e22 e23 q3 q7 q11 q15 q19 q22 q23 hall o0 o1 o2 o3 o4 hB hC hR
  go_wp2
  refine bodyPost_ret (v:= .agg #[.slice (some ⟨g0,0,none⟩) x.b.ac.length c0,.slice (some ⟨g1,0,none⟩) x.b.ic.length c1,.slice (some ⟨g2,0,none⟩) x.b.bs.length c2,.slice (some ⟨g3,0,none⟩) x.b.ls.length c3,.slice (some ⟨g4,0,none⟩) x.b.ts.length c4,.int .i64 x.b.lot]) (by simp[results,Tryz.results100,go_sem,k0,k1,k2,k3,k4,k5]) rfl ⟨⟨g0,c0,g1,c1,g2,c2,g3,c3,g4,c4,x.b⟩,rfl,rfl,zu OO,zu BB⟩
end ICopied
namespace ICmdB
open BMem Bks ILists BHelp Ans ICopied
open IBalsFit (one_more)
open Lots (Says says_of NoOk)
def AnyBox(w:World)(base g:Nat):Prop:=∃(a0 a1 a2 a3 a4:Option Addr) (n0 n1 n2 n3 n4 k0 k1 k2 k3 k4:Nat) (l:Int),Box w base g (.slice a0 n0 k0) (.slice a1 n1 k1) (.slice a2 n2 k2) (.slice a3 n3 k3) (.slice a4 n4 k4) (.int .i64 l)
def Var(w:World)(base g:Nat)(x:Bx):Prop:=Box w base g (.slice (some ⟨x.ga,0,none⟩) x.b.ac.length x.ca) (.slice (some ⟨x.gi,0,none⟩) x.b.ic.length x.ci) (.slice (some ⟨x.gb,0,none⟩) x.b.bs.length x.cb) (.slice (some ⟨x.gl,0,none⟩) x.b.ls.length x.cl) (.slice (some ⟨x.gt,0,none⟩) x.b.ts.length x.ct) (.int .i64 x.b.lot)
theorem Var.any{w:World}{base g:Nat}{x:Bx}(h:Var w base g x):AnyBox w base g:=⟨_,_,_,_,_,_,_,_,_,_,_,_,_,_,_,_,h⟩
def AnsC(told:Prop)(b:Bk)(P:Bk→Int→Int→Prop)(w:World)(e:Ending)(w':World):Prop:=
 (¬told∧e= .returned (.tuple #[.agg #[.slice none 0 0,.slice none 0 0,.slice none 0 0,.slice none 0 0,.slice none 0 0,.int .i64 0],.int .i64 0,.int .i64 1])∧Below w.heap.size w w')∨
 (told∧∃(b':Bk) (t c:Int) (z:Bx),P b' t c∧((c=0∧z.b=b'∧e= .returned (.tuple #[.agg #[.slice (some ⟨z.ga,0,none⟩) z.b.ac.length z.ca,.slice (some ⟨z.gi,0,none⟩) z.b.ic.length z.ci,.slice (some ⟨z.gb,0,none⟩) z.b.bs.length z.cb,.slice (some ⟨z.gl,0,none⟩) z.b.ls.length z.cl,.slice (some ⟨z.gt,0,none⟩) z.b.ts.length z.ct,.int .i64 z.b.lot],.int .i64 t,.int .i64 c]))∨(c≠0∧z.b=b∧e= .returned (.tuple #[.agg #[.slice (some ⟨z.ga,0,none⟩) z.b.ac.length z.ca,.slice (some ⟨z.gi,0,none⟩) z.b.ic.length z.ci,.slice (some ⟨z.gb,0,none⟩) z.b.bs.length z.cb,.slice (some ⟨z.gl,0,none⟩) z.b.ls.length z.cl,.slice (some ⟨z.gt,0,none⟩) z.b.ts.length z.ct,.int .i64 z.b.lot],.int .i64 0,.int .i64 c])))∧Ow w' w.heap.size z∧Below w.heap.size w w')
def Kept(B:Nat)(w w':World):Prop:=w.heap.size≤w'.heap.size∧∀j,B≤j→j<w.heap.size→w'.heap[j]?=w.heap[j]?
theorem Kept.of{B:Nat}{w w':World}(h:Below w.heap.size w w'):Kept B w w':=⟨h.size,fun j _ hj=>h.block j hj⟩
theorem Kept.drew{B:Nat}{w w':World}(h:Kept B w w'):Kept B w w'.drew:=⟨h.1,h.2⟩
theorem Kept.trans{B:Nat}{u v w:World}(h:Kept B u v)(k:Kept B v w):Kept B u w:=⟨Nat.le_trans h.1 k.1,fun j hj hl=>(k.2 j hj (Nat.lt_of_lt_of_le hl h.1)).trans (h.2 j hj hl)⟩
theorem Kept.set{B:Nat}{w w':World}(h:Kept B w w'){g:Nat}(hg:g<B)(j:Nat)(u:Value):Kept B w (w'.setCell ⟨g,j,none⟩ u):=
 ⟨by simpa[World.setCell] using h.1,fun k hk hl=>(Below.heap_setCell _ _ _ _ (by show k≠g;omega)).trans (h.2 k hk hl)⟩
theorem Kept.six{B:Nat}{w w':World}(h:Kept B w w'){g:Nat}(hg:g<B)(u0 u1 u2 u3 u4 u5:Value):Kept B w ((((((w'.setCell ⟨g,0,none⟩ u0).setCell ⟨g,1,none⟩ u1).setCell ⟨g,2,none⟩ u2).setCell ⟨g,3,none⟩ u3).setCell ⟨g,4,none⟩ u4).setCell ⟨g,5,none⟩ u5):=
 (((((h.set hg 0 u0).set hg 1 u1).set hg 2 u2).set hg 3 u3).set hg 4 u4).set hg 5 u5
theorem back_no(p8 p3 p6 p7:Addr)(u:FrameMode)(w:World)(hc:w.cell? p8=some (.int .i64 0)):
  CallsD Tryz.prog 101 #[.pointer (some p8),.pointer (some p3),.pointer (some p6),.pointer (some p7)] u w fun e u' w'=>u'=u∧(e= .returned (.tuple #[])∧w'=w):=by
 go_enter_d Tryz.func101,Tryz.ntmps101
 go_wp2
 go_end0
 exact⟨rfl,rfl⟩
theorem back_yes(w0:World)(x:Bx)(c t:Int)(u:FrameMode)(w:World)(hne:c≠0)(h:Rd w x)(hb:Cl w w0.heap.size x)(hl:w0.heap.size+1+1+1<w.heap.size)(hr:AnyBox w w0.heap.size (w0.heap.size+1))(hc:w.cell? ⟨w0.heap.size+1+1+1,0,none⟩=some (.int .i64 c))(ht:w.cell? ⟨w0.heap.size+1+1,0,none⟩=some (.int .i64 t))(hf:w.frozen? ⟨w0.heap.size+1+1,0,none⟩=false):
  CallsD Tryz.prog 101 #[.pointer (some ⟨w0.heap.size+1+1+1,0,none⟩),.pointer (some ⟨w0.heap.size,0,none⟩),.pointer (some ⟨w0.heap.size+1,0,none⟩),.pointer (some ⟨w0.heap.size+1+1,0,none⟩)] u w fun e u' w'=>u'=u∧(e= .returned (.tuple #[])∧∃z:Bx,z.b=x.b∧Var w' w0.heap.size (w0.heap.size+1) z∧Ow w' (w0.heap.size+4) z∧w'.cell? ⟨w0.heap.size+1+1+1,0,none⟩=some (.int .i64 c)∧w'.cell? ⟨w0.heap.size+1+1,0,none⟩=some (.int .i64 0)∧Below w0.heap.size w w'∧Kept (w0.heap.size+4) w w'):=by
 have hq:(c !=0)=true:=by simp[hne]
 have H:=zh h
 have R:=zh hr
 obtain⟨c0,c1,c2,c3,c4,c5⟩:=hb
 clear h hr hne
 go_enter_d Tryz.func101,Tryz.ntmps101
 go_wp2_with fail
 refine(iCopied _ x (zu H)).mono ?_
 rintro e w1 ⟨z,hz,rfl,oz,bb⟩
 have HZ:=zh hz
 have OZ:=zh oz
 have LZ:=zh (ow_lo oz)
 have B1:=zh bb
 have e3:w1.cell? ⟨w0.heap.size+1+1+1,0,none⟩=some (.int .i64 c):=(bb.cell (p:=⟨w0.heap.size+1+1+1,0,none⟩) hl).trans hc
 have e2:w1.cell? ⟨w0.heap.size+1+1,0,none⟩=some (.int .i64 t):=(bb.cell (p:=⟨w0.heap.size+1+1,0,none⟩) (by simp;omega)).trans ht
 have e2f:w1.frozen? ⟨w0.heap.size+1+1,0,none⟩=false:=(bb.frozen (p:=⟨w0.heap.size+1+1,0,none⟩) (by simp;omega)).trans hf
 obtain⟨a0,a1,a2,a3,a4,n0,n1,n2,n3,n4,k0,k1,k2,k3,k4,l,bx⟩:=zu R
 have bx1:=bx.below bb (by omega)
 have BX:=zh bx1
 obtain⟨r0,r1,r2,r3,r4,r5,f0,f1,f2,f3,f4,f5⟩:=Box.all bx1
 have hs:=bb.size
 clear bb oz hz bx bx1 c0 c1 c2 c3 c4 c5 hc ht hf R
 go_wp2
 go_end0
 refine⟨rfl,z,zu HZ,?_,?_,?_,?_,?_,?_⟩
 ·exact row_set (box_six (zu BX) _ _ _ _ _ _).1 (by omega) 0 _
 ·exact(ow_set (ow_six (zu OZ) (off_lo (zu LZ) (by omega)) _ _ _ _ _ _) (off_lo (zu LZ) (by omega)) 0 _).rebase (by omega)
 ·simp[go_sem,e3]
 ·simp[go_sem,e2]
 ·exact(six ((zu B1).mono (by omega)) (by omega) _ _ _ _ _ _).setCell (p:=⟨w0.heap.size+1+1,0,none⟩) (by simp;omega) _
 ·exact((Kept.of (zu B1)).six (by omega) _ _ _ _ _ _).set (by omega) 0 _
theorem lo_mono{x:Bx}{N M:Nat}(h:Lo x N)(hm:M≤N):Lo x M:=by
 unfold Lo at *
 omega
structure CW(w W:World)(x:Bx)(t c:Int):Prop where
 r:Rd W x
 cl:Cl W w.heap.size x
 b:Below w.heap.size w W
 s:w.heap.size+1+1+1<W.heap.size
 t:W.cell? ⟨w.heap.size+1+1,0,none⟩=some (.int .i64 t)
 tf:W.frozen? ⟨w.heap.size+1+1,0,none⟩=false
 c:W.cell? ⟨w.heap.size+1+1+1,0,none⟩=some (.int .i64 c)
 cf:W.frozen? ⟨w.heap.size+1+1+1,0,none⟩=false
theorem free_new(w:World)(v:Value)(e:TypeId){g:Nat}(hg:g=w.heap.size):(w.alloc (.cells #[v] e)).frozen? ⟨g,0,none⟩=false:=by
 subst hg
 exact World.ownsRow.frozenAt (base:=0) (e:=e) (size:=1) (n:=1) (cap:=1) (xs:=[v]) ⟨rfl,.inr ⟨w.heap.size,1,#[v],rfl,Nat.zero_le _,heap_alloc_new w _,Nat.le_refl _,by unfold maxLen;omega,rfl,rfl⟩⟩ 0
theorem cell_new(w:World)(v:Value)(e:TypeId){g:Nat}(hg:g=w.heap.size):(w.alloc (.cells #[v] e)).cell? ⟨g,0,none⟩=some v:=by
 subst hg
 simp
theorem CW.step{w W W':World}{x:Bx}{t c:Int}(h:CW w W x t c)(k:Below W.heap.size W W'):CW w W' x t c:=by
 have s:=h.s
 exact⟨h.r.below k,h.cl.below k (by omega),h.b.trans (k.mono h.b.size),Nat.lt_of_lt_of_le h.s k.size,(k.cell (p:=⟨w.heap.size+1+1,0,none⟩) (by simp;omega)).trans h.t,(k.frozen (p:=⟨w.heap.size+1+1,0,none⟩) (by simp;omega)).trans h.tf,(k.cell (p:=⟨w.heap.size+1+1+1,0,none⟩) h.s).trans h.c,(k.frozen (p:=⟨w.heap.size+1+1+1,0,none⟩) h.s).trans h.cf⟩
theorem CW.grown{w W W':World}{x:Bx}{t c:Int}(H:Rd w x)(h:CW w W x t c)(k:W.grownBy W' (some (w.heap.size+1))):CW w W' x t c:=by
 have s:=h.s
 have b:Below w.heap.size w W':=h.b.grown k h.b.size (fun j e=>by injection e;omega)
 have n0:some w.heap.size≠some (w.heap.size+1):=fun e=>by injection e;omega
 have n2:some (w.heap.size+1+1)≠some (w.heap.size+1):=fun e=>by injection e;omega
 have n3:some (w.heap.size+1+1+1)≠some (w.heap.size+1):=fun e=>by injection e;omega
 exact⟨H.below b,⟨k.cell h.cl.c0 n0,k.cell h.cl.c1 n0,k.cell h.cl.c2 n0,k.cell h.cl.c3 n0,k.cell h.cl.c4 n0,k.cell h.cl.c5 n0⟩,b,Nat.lt_of_lt_of_le h.s k.size,k.cell h.t n2,(World.frozen?_of_block (a:=⟨w.heap.size+1+1,0,none⟩) (k.block (w.heap.size+1+1) (by omega) n2)).trans h.tf,k.cell h.c n3,(World.frozen?_of_block (a:=⟨w.heap.size+1+1+1,0,none⟩) (k.block (w.heap.size+1+1+1) (by omega) n3)).trans h.cf⟩
theorem CW.start{w:World}{x:Bx}(h:Rd w x):CW w ((((w.alloc (.cells #[.slice (some ⟨x.ga,0,none⟩) x.b.ac.length x.ca,.slice (some ⟨x.gi,0,none⟩) x.b.ic.length x.ci,.slice (some ⟨x.gb,0,none⟩) x.b.bs.length x.cb,.slice (some ⟨x.gl,0,none⟩) x.b.ls.length x.cl,.slice (some ⟨x.gt,0,none⟩) x.b.ts.length x.ct,.int .i64 x.b.lot] 40)).alloc (.cells #[.slice none 0 0,.slice none 0 0,.slice none 0 0,.slice none 0 0,.slice none 0 0,.int .i64 0] 40)).alloc (.cells #[.int .i64 0] 3)).alloc (.cells #[.int .i64 0] 3)) x 0 0:=by
 have s:=SR.start h
 have b:Below ((w.alloc (.cells #[.slice (some ⟨x.ga,0,none⟩) x.b.ac.length x.ca,.slice (some ⟨x.gi,0,none⟩) x.b.ic.length x.ci,.slice (some ⟨x.gb,0,none⟩) x.b.bs.length x.cb,.slice (some ⟨x.gl,0,none⟩) x.b.ls.length x.cl,.slice (some ⟨x.gt,0,none⟩) x.b.ts.length x.ct,.int .i64 x.b.lot] 40)).alloc (.cells #[.slice none 0 0,.slice none 0 0,.slice none 0 0,.slice none 0 0,.slice none 0 0,.int .i64 0] 40)).heap.size ((w.alloc (.cells #[.slice (some ⟨x.ga,0,none⟩) x.b.ac.length x.ca,.slice (some ⟨x.gi,0,none⟩) x.b.ic.length x.ci,.slice (some ⟨x.gb,0,none⟩) x.b.bs.length x.cb,.slice (some ⟨x.gl,0,none⟩) x.b.ls.length x.cl,.slice (some ⟨x.gt,0,none⟩) x.b.ts.length x.ct,.int .i64 x.b.lot] 40)).alloc (.cells #[.slice none 0 0,.slice none 0 0,.slice none 0 0,.slice none 0 0,.slice none 0 0,.int .i64 0] 40)) ((((w.alloc (.cells #[.slice (some ⟨x.ga,0,none⟩) x.b.ac.length x.ca,.slice (some ⟨x.gi,0,none⟩) x.b.ic.length x.ci,.slice (some ⟨x.gb,0,none⟩) x.b.bs.length x.cb,.slice (some ⟨x.gl,0,none⟩) x.b.ls.length x.cl,.slice (some ⟨x.gt,0,none⟩) x.b.ts.length x.ct,.int .i64 x.b.lot] 40)).alloc (.cells #[.slice none 0 0,.slice none 0 0,.slice none 0 0,.slice none 0 0,.slice none 0 0,.int .i64 0] 40)).alloc (.cells #[.int .i64 0] 3)).alloc (.cells #[.int .i64 0] 3)):=((Below.refl _ _).alloc (Nat.le_refl _) _).alloc (by simp) _
 have s2:=s.step b
 exact⟨s2.r,s2.c,s2.b,by simp,((one_more _ _).cell (p:=⟨w.heap.size+1+1,0,none⟩) (by simp)).trans (cell_new _ _ _ (by simp)),((one_more _ _).frozen (p:=⟨w.heap.size+1+1,0,none⟩) (by simp)).trans (free_new _ _ _ (by simp)),cell_new _ _ _ (by simp),free_new _ _ _ (by simp)⟩
theorem var_start(w:World)(x:Bx):Box ((((w.alloc (.cells #[.slice (some ⟨x.ga,0,none⟩) x.b.ac.length x.ca,.slice (some ⟨x.gi,0,none⟩) x.b.ic.length x.ci,.slice (some ⟨x.gb,0,none⟩) x.b.bs.length x.cb,.slice (some ⟨x.gl,0,none⟩) x.b.ls.length x.cl,.slice (some ⟨x.gt,0,none⟩) x.b.ts.length x.ct,.int .i64 x.b.lot] 40)).alloc (.cells #[.slice none 0 0,.slice none 0 0,.slice none 0 0,.slice none 0 0,.slice none 0 0,.int .i64 0] 40)).alloc (.cells #[.int .i64 0] 3)).alloc (.cells #[.int .i64 0] 3)) w.heap.size (w.heap.size+1) (.slice none 0 0) (.slice none 0 0) (.slice none 0 0) (.slice none 0 0) (.slice none 0 0) (.int .i64 0):=
 World.ownsRow.alloc (World.ownsRow.alloc (Box.made (w:=w.alloc (.cells #[.slice (some ⟨x.ga,0,none⟩) x.b.ac.length x.ca,.slice (some ⟨x.gi,0,none⟩) x.b.ic.length x.ci,.slice (some ⟨x.gb,0,none⟩) x.b.bs.length x.cb,.slice (some ⟨x.gl,0,none⟩) x.b.ls.length x.cl,.slice (some ⟨x.gt,0,none⟩) x.b.ts.length x.ct,.int .i64 x.b.lot] 40)) (base:=w.heap.size) (g:=w.heap.size+1) _ _ _ _ _ _ (by simp) (by simp)) _) _
theorem cell_off(w:World){g g':Nat}(j j':Nat)(u:Value)(ne:g≠g'):(w.setCell ⟨g,j,none⟩ u).cell? ⟨g',j',none⟩=w.cell? ⟨g',j',none⟩:=
 World.cell?_setCell_other _ _ _ _ (fun e=>ne (congrArg Addr.block e))
theorem CW.told{w W:World}{x:Bx}{t c:Int}(H:Rd w x)(h:CW w W x t c)(t' c':Int):CW w ((W.setCell ⟨w.heap.size+1+1,0,none⟩ (.int .i64 t')).setCell ⟨w.heap.size+1+1+1,0,none⟩ (.int .i64 c')) x t' c':=by
 have b:=(h.b.setCell (p:=⟨w.heap.size+1+1,0,none⟩) (by simp;omega) (.int .i64 t')).setCell (p:=⟨w.heap.size+1+1+1,0,none⟩) (by simp;omega) (.int .i64 c')
 have s:=h.s
 refine⟨H.below b,⟨?_,?_,?_,?_,?_,?_⟩,b,by simpa using s,?_,?_,?_,?_⟩
 ·rw[cell_off _ _ _ _ (by omega),cell_off _ _ _ _ (by omega)];exact h.cl.c0
 ·rw[cell_off _ _ _ _ (by omega),cell_off _ _ _ _ (by omega)];exact h.cl.c1
 ·rw[cell_off _ _ _ _ (by omega),cell_off _ _ _ _ (by omega)];exact h.cl.c2
 ·rw[cell_off _ _ _ _ (by omega),cell_off _ _ _ _ (by omega)];exact h.cl.c3
 ·rw[cell_off _ _ _ _ (by omega),cell_off _ _ _ _ (by omega)];exact h.cl.c4
 ·rw[cell_off _ _ _ _ (by omega),cell_off _ _ _ _ (by omega)];exact h.cl.c5
 ·rw[cell_off _ _ _ _ (by omega)];exact World.cell?_setCell_same _ _ _ h.t
 ·rw[World.frozen?_setCell,World.frozen?_setCell];exact h.tf
 ·exact World.cell?_setCell_same _ _ _ ((cell_off W (g:=w.heap.size+1+1) (g':=w.heap.size+1+1+1) 0 0 _ (by omega)).trans h.c)
 ·rw[World.frozen?_setCell,World.frozen?_setCell];exact h.cf
theorem CW.drew{w W:World}{x:Bx}{t c:Int}(H:Rd w x)(h:CW w W x t c):CW w W.drew x t c:=
 ⟨H.below h.b.drew,⟨h.cl.c0,h.cl.c1,h.cl.c2,h.cl.c3,h.cl.c4,h.cl.c5⟩,h.b.drew,h.s,h.t,h.tf,h.c,h.cf⟩
theorem ow_drew{w:World}{base:Nat}{z:Bx}(h:Ow w base z):Ow w.drew base z:=⟨h.oa,h.oi,h.ob,h.ol,h.ot⟩
abbrev fin0(g:Nat)(W:World)(a b:Value):World:=(W.setCell ⟨g+1+1,0,none⟩ a).setCell ⟨g+1+1+1,0,none⟩ b
abbrev fin1(g:Nat)(W:World)(v0 v1 v2 v3 v4 v5:Value):World:=(((((W.setCell ⟨g+1,0,none⟩ v0).setCell ⟨g+1,1,none⟩ v1).setCell ⟨g+1,2,none⟩ v2).setCell ⟨g+1,3,none⟩ v3).setCell ⟨g+1,4,none⟩ v4).setCell ⟨g+1,5,none⟩ v5
abbrev fin(g:Nat)(W:World)(v0 v1 v2 v3 v4 v5 a b:Value):World:=(fin0 g (fin1 g (fin0 g W a b) v0 v1 v2 v3 v4 v5) a b).drew
theorem box_drew{w:World}{base g:Nat}{v0 v1 v2 v3 v4 v5:Value}(h:Box w base g v0 v1 v2 v3 v4 v5):Box w.drew base g v0 v1 v2 v3 v4 v5:=h
theorem box_fin0{w W:World}{v0 v1 v2 v3 v4 v5:Value}(X:Box W w.heap.size (w.heap.size+1) v0 v1 v2 v3 v4 v5)(a b:Value):Box (fin0 w.heap.size W a b) w.heap.size (w.heap.size+1) v0 v1 v2 v3 v4 v5:=
 row_set (row_set X (show w.heap.size+1≠w.heap.size+1+1 by omega) 0 a) (show w.heap.size+1≠w.heap.size+1+1+1 by omega) 0 b
theorem CW.final{w W:World}{x:Bx}{v0 v1 v2 v3 v4 v5:Value}{t0 c0:Int}(H:Rd w x)(h:CW w W x t0 c0)(X:Box W w.heap.size (w.heap.size+1) v0 v1 v2 v3 v4 v5)(t c:Int):
  CW w (fin w.heap.size W v0 v1 v2 v3 v4 v5 (.int .i64 t) (.int .i64 c)) x t c∧Box (fin w.heap.size W v0 v1 v2 v3 v4 v5 (.int .i64 t) (.int .i64 c)) w.heap.size (w.heap.size+1) v0 v1 v2 v3 v4 v5:=by
 have b:=box_six (box_fin0 X (.int .i64 t) (.int .i64 c)) v0 v1 v2 v3 v4 v5
 exact⟨(CW.told H (CW.grown H (CW.told H h t c) b.2) t c).drew H,box_drew (box_fin0 b.1 _ _)⟩
theorem kept_final{B base:Nat}{W0 W:World}(h:Kept B W0 W)(hb:base+4≤B)(v0 v1 v2 v3 v4 v5 a b:Value):Kept B W0 (fin base W v0 v1 v2 v3 v4 v5 a b):=by
 have h1:=(h.set (g:=base+1+1) (by omega) 0 a).set (g:=base+1+1+1) (by omega) 0 b
 have h2:=h1.six (g:=base+1) (by omega) v0 v1 v2 v3 v4 v5
 have h3:=(h2.set (g:=base+1+1) (by omega) 0 a).set (g:=base+1+1+1) (by omega) 0 b
 exact h3.drew
theorem ow_final{w W:World}{base:Nat}{z:Bx}(O:Ow W base z)(hb:w.heap.size+4≤base)(v0 v1 v2 v3 v4 v5 a b:Value):Ow (fin w.heap.size W v0 v1 v2 v3 v4 v5 a b) w.heap.size z:=by
 have L:=ow_lo O
 exact ow_drew ((ow_set (ow_set (ow_six (ow_set (ow_set O (off_lo L (by omega)) 0 a) (off_lo L (by omega)) 0 b) (off_lo L (by omega)) v0 v1 v2 v3 v4 v5) (off_lo L (by omega)) 0 a) (off_lo L (by omega)) 0 b).rebase (by omega))
structure DW(u W:World)(z:Bx)(base g:Nat):Prop where
 r:Rd W z
 v:Var W base g z
 o:Ow W (base+4) z
 b:Below u.heap.size u W
theorem DW.start{u:World}{z:Bx}{base g:Nat}(V:Var u base g z)(O:Ow u (base+4) z)(s:Small z.b):DW u u z base g:=⟨O.rd s,V,O,Below.refl _ _⟩
theorem DW.step{u W W':World}{z:Bx}{base g:Nat}(h:DW u W z base g)(k:Below W.heap.size W W'):DW u W' z base g:=
 ⟨h.r.below k,Box.below h.v k (Box.lt h.v).2,h.o.below k (Nat.le_refl _),h.b.trans (k.mono h.b.size)⟩
theorem DW.drew{u W:World}{z:Bx}{base g:Nat}(h:DW u W z base g):DW u W.drew z base g:=h.step (Below.refl _ _).drew
theorem DW.grown{u W:World}{z:Bx}{base g:Nat}(h:DW u W z base g):u.grownBy W (some g):=⟨h.b.os,h.b.tape,h.b.output,h.b.size,fun j hj _=>h.b.block j hj⟩
end ICmdB
namespace ICmd
open BMem Bks ILists BHelp Ans ICopied ICmdB
open Lots (Says says_of NoOk)
theorem to_w{P:Program}{fn:Func}{R:Ending→World→Prop}{ex:Exit}{a:Act}{W:World}(Pr:World→Prop)(h:Pr W)(k:∀W,Pr W→bodyPostD P fn R ex a W):bodyPostD P fn R ex a W:=k W h
end ICmd
namespace ICmdW
open BMem Bks ILists BHelp Ans ICopied ICmdB
open Lots (Says says_of NoOk)
open ICmd (to_w)
structure Frm(u u':World)(base g:Nat):Prop where
 os:u'.os=u.os
 tape:u'.tape=u.tape
 output:u'.output=u.output
 size:u.heap.size≤u'.heap.size
 block:∀j,j<base+4→j≠g→u'.heap[j]?=u.heap[j]?
theorem Frm.refl(u:World)(base g:Nat):Frm u u base g:=⟨rfl,rfl,rfl,Nat.le_refl _,fun _ _ _=>rfl⟩
theorem Frm.trans{u v w:World}{base g:Nat}(h:Frm u v base g)(k:Frm v w base g):Frm u w base g:=
 ⟨k.os.trans h.os,k.tape.trans h.tape,k.output.trans h.output,Nat.le_trans h.size k.size,fun j hj hn=>(k.block j hj hn).trans (h.block j hj hn)⟩
theorem Frm.grown{u v:World}{base g r:Nat}(k:u.grownBy v (some r))(hr:r=g∨base+4≤r)(hs:base+4≤u.heap.size):Frm u v base g:=
 ⟨k.os,k.tape,k.output,k.size,fun j hj hn=>k.block j (by omega) (fun e=>by injection e;omega)⟩
theorem Frm.below{u v:World}{base g B:Nat}(k:Below B u v)(hB:base+4≤B):Frm u v base g:=
 ⟨k.os,k.tape,k.output,k.size,fun j hj hn=>k.block j (by omega)⟩
theorem CWfrm{w W W':World}{x:Bx}{t c:Int}(H:Rd w x)(h:CW w W x t c)(k:Frm W W' w.heap.size (w.heap.size+1)):CW w W' x t c:=by
 have s:=h.s
 have b0:Below w.heap.size W W':=⟨k.os,k.tape,k.output,k.size,fun j hj=>k.block j (by omega) (by omega)⟩
 have b:Below w.heap.size w W':=h.b.trans b0
 have q0:∀j,W'.cell? ⟨w.heap.size,j,none⟩=W.cell? ⟨w.heap.size,j,none⟩:=fun j=>World.cell?_of_block (a:=⟨w.heap.size,j,none⟩) (k.block w.heap.size (by omega) (by omega))
 have q2:W'.cell? ⟨w.heap.size+1+1,0,none⟩=W.cell? ⟨w.heap.size+1+1,0,none⟩:=World.cell?_of_block (a:=⟨w.heap.size+1+1,0,none⟩) (k.block (w.heap.size+1+1) (by omega) (by omega))
 have q3:W'.cell? ⟨w.heap.size+1+1+1,0,none⟩=W.cell? ⟨w.heap.size+1+1+1,0,none⟩:=World.cell?_of_block (a:=⟨w.heap.size+1+1+1,0,none⟩) (k.block (w.heap.size+1+1+1) (by omega) (by omega))
 exact⟨H.below b,⟨(q0 0).trans h.cl.c0,(q0 1).trans h.cl.c1,(q0 2).trans h.cl.c2,(q0 3).trans h.cl.c3,(q0 4).trans h.cl.c4,(q0 5).trans h.cl.c5⟩,b,Nat.lt_of_lt_of_le h.s k.size,q2.trans h.t,(World.frozen?_of_block (a:=⟨w.heap.size+1+1,0,none⟩) (k.block (w.heap.size+1+1) (by omega) (by omega))).trans h.tf,q3.trans h.c,(World.frozen?_of_block (a:=⟨w.heap.size+1+1+1,0,none⟩) (k.block (w.heap.size+1+1+1) (by omega) (by omega))).trans h.cf⟩
end ICmdW
namespace ICmdL
open BMem Bks ILists BHelp Ans ICopied ICmdB
open Lots (Says says_of NoOk)
open ICmd (to_w)
open ICmdW (Frm CWfrm)
structure Alt(w w1 u u1:World):Prop where
 ws:w1.heap.size=w.heap.size
 us:u1.heap.size=u.heap.size
 blk:∀j,w.heap.size≤j→u1.heap[j]?=u.heap[j]?
 b:Below w1.heap.size w1 u1
theorem CWalt{w w1 W W1:World}{x:Bx}{t c:Int}(H:Rd w1 x)(h:CW w W x t c)(k:Alt w w1 W W1):CW w1 W1 x t c:=by
 have q:∀g j,w.heap.size≤g→W1.cell? ⟨g,j,none⟩=W.cell? ⟨g,j,none⟩:=fun g j hg=>World.cell?_of_block (a:=⟨g,j,none⟩) (k.blk g hg)
 have f:∀g j,w.heap.size≤g→W1.frozen? ⟨g,j,none⟩=W.frozen? ⟨g,j,none⟩:=fun g j hg=>World.frozen?_of_block (a:=⟨g,j,none⟩) (k.blk g hg)
 have e:=k.ws
 refine⟨H.below k.b,?_,k.b,by rw[k.us,e];exact h.s,?_,?_,?_,?_⟩
 ·rw[e]
  exact⟨(q _ 0 (Nat.le_refl _)).trans h.cl.c0,(q _ 1 (Nat.le_refl _)).trans h.cl.c1,(q _ 2 (Nat.le_refl _)).trans h.cl.c2,(q _ 3 (Nat.le_refl _)).trans h.cl.c3,(q _ 4 (Nat.le_refl _)).trans h.cl.c4,(q _ 5 (Nat.le_refl _)).trans h.cl.c5⟩
 ·rw[e];exact(q _ 0 (by omega)).trans h.t
 ·rw[e];exact(f _ 0 (by omega)).trans h.tf
 ·rw[e];exact(q _ 0 (by omega)).trans h.c
 ·rw[e];exact(f _ 0 (by omega)).trans h.cf
def DoesL(x:Bx)(P:World→World→Bk→Int→Int→Prop)(w:World)(base g:Nat)(u:World)(e:Ending)(u':World):Prop:=
 ∃(w1 u1:World) (b':Bk) (t c:Int),Rd w1 x∧Alt w w1 u u1∧P w1 u' b' t c∧e= .returned (.tuple #[.int .i64 t,.int .i64 c])∧((c=0∧∃z,z.b=b'∧Var u' base g z∧Ow u' (base+4) z)∨(c≠0∧AnyBox u' base g))∧Frm u1 u' base g
def AnsX(told:Prop)(b:Bk)(P:World→World→Bk→Int→Int→Prop)(w:World)(e:Ending)(w':World):Prop:=
 (¬told∧e= .returned (.tuple #[.agg #[.slice none 0 0,.slice none 0 0,.slice none 0 0,.slice none 0 0,.slice none 0 0,.int .i64 0],.int .i64 0,.int .i64 1])∧Below w.heap.size w w')∨
 (told∧∃w1 u',w1.heap.size=w.heap.size∧Kept (w.heap.size+4) u' w'∧AnsC told b (P w1 u') w1 e w')
theorem iCmdL(w:World)(x:Bx)(tb:Bool)(told:Prop)(K:Nat)(caps:Array Value)(P:World→World→Bk→Int→Int→Prop)(h:Rd w x)(ht:Says tb told)
  (hK:∀(args:Array Value) (u:World),(callFunc K args).run Tryz.prog u= .ok (.enter K args) u)
  (hf:Ok x.b→told→∀(u:World) (z:Bx),z.b=x.b→Var u w.heap.size (w.heap.size+1) z→Ow u (w.heap.size+4) z→Below w.heap.size w u→Calls Tryz.prog K (#[.pointer (some ⟨w.heap.size+1,0,none⟩)]++caps) u (DoesL x P w w.heap.size (w.heap.size+1) u)):
  Calls Tryz.prog 55 #[.agg #[.slice (some ⟨x.ga,0,none⟩) x.b.ac.length x.ca,.slice (some ⟨x.gi,0,none⟩) x.b.ic.length x.ci,.slice (some ⟨x.gb,0,none⟩) x.b.bs.length x.cb,.slice (some ⟨x.gl,0,none⟩) x.b.ls.length x.cl,.slice (some ⟨x.gt,0,none⟩) x.b.ts.length x.ct,.int .i64 x.b.lot],.bool tb,.func (.func K) #[] caps] w (AnsX (told∧Ok x.b) x.b P w):=by
 obtain⟨b0,h0⟩:=says_of (Ok x.b)
 have H0:=zh h0
 have HT:=zh ht
 have HF:=zh hf
 have H:=zh h
 have hmf:∀(fn:Fn) (first cp:Array Value) (w:World),(Instr.makeFunc fn first cp).run Tryz.prog w= .ok (.func fn first cp) w:=fun _ _ _ _=>rfl
 have C0:=zh (CW.start h)
 have X0:=zh (var_start w x)
 clear h0 ht hf h
 go_enter_defers Tryz.func55,Tryz.ntmps55
 cases tb
 ·have N:=zh (show ¬(told∧Ok x.b) from fun hh=>(zu HT).no hh.1)
  go_wp2
  refine⟨.tuple #[.agg #[.slice none 0 0,.slice none 0 0,.slice none 0 0,.slice none 0 0,.slice none 0 0,.int .i64 0],.int .i64 0,.int .i64 1],by simp[results,Tryz.results55,go_sem],.inl ⟨zu N,rfl,?_⟩⟩
  exact((((Below.refl _ _).alloc (Nat.le_refl _) _).alloc (by simp) _).alloc (by simp;omega) _).alloc (by simp;omega) _
 go_wp2_with fail
 refine(IBooksOk.iBooksOk _ x b0 (zu C0).r (zu H0)).mono ?_
 rintro e w1 ⟨rfl,bb⟩
 have C1:=zh ((zu C0).step bb)
 have X1:=zh ((zu X0).below bb (by simp))
 clear bb C0 X0
 obtain⟨c0,c1,c2,c3,c4,c5⟩:=(zu C1).cl
 have t1:=(zu C1).t
 have t2:=(zu C1).tf
 have t3:=(zu C1).c
 have t4:=(zu C1).cf
 obtain⟨r0,r1,r2,r3,r4,r5,f0,f1,f2,f3,f4,f5⟩:=Box.all (zu X1)
 have B1:=zh (zu C1).b
 cases b0
 ·have N:=zh (show ¬(told∧Ok x.b) from fun hh=>(zu H0).no hh.2)
  go_wp2
  refine⟨.tuple #[.agg #[.slice none 0 0,.slice none 0 0,.slice none 0 0,.slice none 0 0,.slice none 0 0,.int .i64 0],.int .i64 0,.int .i64 1],by simp[results,Tryz.results55,go_sem,r0,r1,r2,r3,r4,r5,t1,t3],.inl ⟨zu N,rfl,?_⟩⟩
  exact((six (zu B1) (by omega) _ _ _ _ _ _).setCell (p:=⟨w.heap.size+1+1,0,none⟩) (by simp;omega) _).setCell (p:=⟨w.heap.size+1+1+1,0,none⟩) (by simp;omega) _
 have OK:=zh (zu H0).yes
 have TOLD:=zh (zu HT).yes
 go_wp2_with fail
 refine(iCopied _ x (zu C1).r).mono ?_
 rintro e w2 ⟨z,hz,rfl,oz,bb⟩
 have C2:=zh ((zu C1).step bb)
 have X2:=zh ((zu X1).below bb (by have:=(zu C1).s;omega))
 have LZ:=zh (lo_mono (ow_lo oz) (show w.heap.size+4≤w1.heap.size from(zu C1).s))
 have OZ:=zh (oz.rebase (show w.heap.size+4≤w1.heap.size from(zu C1).s))
 have HZ:=zh hz
 clear bb oz hz C1 X1 c0 c1 c2 c3 c4 c5 t1 t2 t3 t4 r0 r1 r2 r3 r4 r5 f0 f1 f2 f3 f4 f5 B1
 obtain⟨c0,c1,c2,c3,c4,c5⟩:=(zu C2).cl
 obtain⟨r0,r1,r2,r3,r4,r5,f0,f1,f2,f3,f4,f5⟩:=Box.all (zu X2)
 go_wp2_with fail
 have bx3:=box_six (zu X2) (.slice (some ⟨z.ga,0,none⟩) z.b.ac.length z.ca) (.slice (some ⟨z.gi,0,none⟩) z.b.ic.length z.ci) (.slice (some ⟨z.gb,0,none⟩) z.b.bs.length z.cb) (.slice (some ⟨z.gl,0,none⟩) z.b.ls.length z.cl) (.slice (some ⟨z.gt,0,none⟩) z.b.ts.length z.ct) (.int .i64 z.b.lot)
 have C3:=zh (CW.grown (zu H) (zu C2) bx3.2)
 have O3:=zh (ow_six (zu OZ) (off_lo (zu LZ) (g:=w.heap.size+1) (by omega)) (.slice (some ⟨z.ga,0,none⟩) z.b.ac.length z.ca) (.slice (some ⟨z.gi,0,none⟩) z.b.ic.length z.ci) (.slice (some ⟨z.gb,0,none⟩) z.b.bs.length z.cb) (.slice (some ⟨z.gl,0,none⟩) z.b.ls.length z.cl) (.slice (some ⟨z.gt,0,none⟩) z.b.ts.length z.ct) (.int .i64 z.b.lot))
 refine((zu HF) (zu OK) (zu TOLD) _ z (zu HZ) bx3.1 (zu O3) (zu C3).b).mono ?_
 rintro e w4 ⟨w9,u9,b',t,c,hr,al,hp,rfl,hz4,gr⟩
 have C4:=zh (CWfrm hr (CWalt hr (zu C3) al) (by rw[al.ws];exact gr))
 have ws:=al.ws
 have H9:=zh hr
 clear al hr
 have PP:=zh hp
 clear bx3 gr hp H c0 c1 c2 c3 c4 c5 r0 r1 r2 r3 r4 r5 f0 f1 f2 f3 f4 f5 X2 C2 C3 O3 OZ LZ HZ
 have SZ:=zh ws
 obtain⟨B4,h4⟩:∃B,w.heap.size=B:=⟨_,rfl⟩
 rw[h4] at ws hz4
 simp only[h4]
 clear h4
 subst ws
 have t1:=(zu C4).t
 have t2:=(zu C4).tf
 have t3:=(zu C4).c
 have t4:=(zu C4).cf
 rcases hz4 with⟨rfl,z4,hz4,v4,o4⟩|⟨hc,v4⟩
 ·have HZ4:=zh hz4
  clear hz4
  obtain⟨d0,d1,d2,d3,d4,d5,f0,f1,f2,f3,f4,f5⟩:=Box.all v4
  have E:=zh (CW.final (zu H9) (zu C4) v4 t 0)
  have O4:=zh o4
  clear v4 o4
  go_wp2_with fail
  go_region
  go_wp2
  refine to_w (fun W=>CW w9 W x t 0∧Box W w9.heap.size (w9.heap.size+1) (.slice (some ⟨z4.ga,0,none⟩) z4.b.ac.length z4.ca) (.slice (some ⟨z4.gi,0,none⟩) z4.b.ic.length z4.ci) (.slice (some ⟨z4.gb,0,none⟩) z4.b.bs.length z4.cb) (.slice (some ⟨z4.gl,0,none⟩) z4.b.ls.length z4.cl) (.slice (some ⟨z4.gt,0,none⟩) z4.b.ts.length z4.ct) (.int .i64 z4.b.lot)∧Ow W w9.heap.size z4∧Kept (w9.heap.size+4) w4 W) ?_ ?_
  ·exact⟨(zu E).1,(zu E).2,ow_final (zu O4) (Nat.le_refl _) _ _ _ _ _ _ _ _,kept_final (Kept.of (Below.refl _ _)) (by omega) _ _ _ _ _ _ _ _⟩
  rintro W ⟨E1,E2,E3,KX⟩
  refine leaves_cons (f:=101) (args:= #[.pointer (some ⟨w9.heap.size+1+1+1,0,none⟩),.pointer (some ⟨w9.heap.size,0,none⟩),.pointer (some ⟨w9.heap.size+1,0,none⟩),.pointer (some ⟨w9.heap.size+1+1,0,none⟩)]) (by simp) (by simp[go_sem]) ?_
  refine(back_no ⟨w9.heap.size+1+1+1,0,none⟩ ⟨w9.heap.size,0,none⟩ ⟨w9.heap.size+1,0,none⟩ ⟨w9.heap.size+1+1,0,none⟩ .returning _ E1.c).mono ?_
  rintro e u' w6 ⟨rfl,rfl,rfl⟩
  have g0:=E2.c0
  have g1:=E2.c1
  have g2:=E2.c2
  have g3:=E2.c3
  have g4:=E2.c4
  have g5:=E2.c5
  have et:=E1.t
  have ec:=E1.c
  refine⟨.tuple #[.agg #[.slice (some ⟨z4.ga,0,none⟩) z4.b.ac.length z4.ca,.slice (some ⟨z4.gi,0,none⟩) z4.b.ic.length z4.ci,.slice (some ⟨z4.gb,0,none⟩) z4.b.bs.length z4.cb,.slice (some ⟨z4.gl,0,none⟩) z4.b.ls.length z4.cl,.slice (some ⟨z4.gt,0,none⟩) z4.b.ts.length z4.ct,.int .i64 z4.b.lot],.int .i64 t,.int .i64 0],by simp[results,Tryz.results55,go_sem,g0,g1,g2,g3,g4,g5,et,ec],.inr ⟨⟨zu TOLD,zu OK⟩,w9,w4,zu SZ,by rw[←zu SZ];exact KX,.inr ⟨⟨zu TOLD,zu OK⟩,b',t,0,z4,zu PP,.inl ⟨rfl,zu HZ4,rfl⟩,E3,E1.b⟩⟩⟩
 ·obtain⟨a0,a1,a2,a3,a4,n0,n1,n2,n3,n4,k0,k1,k2,k3,k4,l,v4⟩:=v4
  obtain⟨d0,d1,d2,d3,d4,d5,f0,f1,f2,f3,f4,f5⟩:=Box.all v4
  have E:=zh (CW.final (zu H9) (zu C4) v4 t c)
  have HC:=zh hc
  have KY:=zh (kept_final (base:=w9.heap.size) (B:=w9.heap.size+4) (Kept.of (Below.refl _ w4)) (by omega) (.slice a0 n0 k0) (.slice a1 n1 k1) (.slice a2 n2 k2) (.slice a3 n3 k3) (.slice a4 n4 k4) (.int .i64 l) (.int .i64 t) (.int .i64 c))
  clear v4 hc
  go_wp2_with fail
  go_region
  go_wp2
  refine leaves_cons (f:=101) (args:= #[.pointer (some ⟨w9.heap.size+1+1+1,0,none⟩),.pointer (some ⟨w9.heap.size,0,none⟩),.pointer (some ⟨w9.heap.size+1,0,none⟩),.pointer (some ⟨w9.heap.size+1+1,0,none⟩)]) (by simp) (by simp[go_sem]) ?_
  refine(back_yes w9 x c t .returning _ (zu HC) (zu E).1.r (zu E).1.cl (zu E).1.s ⟨_,_,_,_,_,_,_,_,_,_,_,_,_,_,_,_,(zu E).2⟩ (zu E).1.c (zu E).1.t (zu E).1.tf).mono ?_
  rintro e u' w6 ⟨rfl,rfl,z6,hz6,vz,oz,ec,et,bb,kp⟩
  have g0:=vz.c0
  have g1:=vz.c1
  have g2:=vz.c2
  have g3:=vz.c3
  have g4:=vz.c4
  have g5:=vz.c5
  refine⟨.tuple #[.agg #[.slice (some ⟨z6.ga,0,none⟩) z6.b.ac.length z6.ca,.slice (some ⟨z6.gi,0,none⟩) z6.b.ic.length z6.ci,.slice (some ⟨z6.gb,0,none⟩) z6.b.bs.length z6.cb,.slice (some ⟨z6.gl,0,none⟩) z6.b.ls.length z6.cl,.slice (some ⟨z6.gt,0,none⟩) z6.b.ts.length z6.ct,.int .i64 z6.b.lot],.int .i64 0,.int .i64 c],by simp[results,Tryz.results55,go_sem,g0,g1,g2,g3,g4,g5,ec,et],.inr ⟨⟨zu TOLD,zu OK⟩,w9,w4,zu SZ,by rw[←zu SZ];exact(zu KY).trans kp,.inr ⟨⟨zu TOLD,zu OK⟩,b',t,c,z6,zu PP,.inr ⟨zu HC,hz6,rfl⟩,oz.rebase (by omega),(zu E).1.b.trans bb⟩⟩⟩
end ICmdL
namespace IPlace8
open BMem Bks IRead IHave ITrade ILists IBalsFit Trd
open Tup8 (T8 el8 At8 Holds8)
open AccountIPlace (Cmp iCompare)
def IsPlace8(ps:List T8)(no:Int)(c:Nat):Prop:=c≤ps.length∧(∀i,i<c→(el8 ps i).1<no)∧(∀i,c≤i→i<ps.length→no≤(el8 ps i).1)
def StandsAt8(f:Bool)(ps:List T8)(no:Int)(c:Nat):Prop:=f=true↔c<ps.length∧(el8 ps c).1=no
theorem place_at{ps:List T8}{no:Int}{c:Nat}(h:IsPlace8 ps no c)(k:StandsAt8 true ps no c):IsAt ps no c:=
 ⟨(k.1 rfl).1,(k.1 rfl).2,fun j hj e=>by have:=h.2.1 j hj;omega⟩
theorem place_none{ps:List T8}{no:Int}{c:Nat}(h:IsPlace8 ps no c)(k:StandsAt8 false ps no c)(asc:∀j i,i<j→j<ps.length→(el8 ps i).1<(el8 ps j).1):NoneAt ps no:=by
 intro j hj e
 rcases Nat.lt_trichotomy j c with a|a|a
 ·have:=h.2.1 j a;omega
 ·subst a;exact Bool.noConfusion (k.2 ⟨hj,e⟩)
 ·have a1:=asc j c a hj
  have a2:=h.2.2 c (Nat.le_refl _) (by omega)
  omega
theorem iCmp(y0 y1 y2 y3 y4 y5 y6 y7 no:Int)(w:World):Calls Tryz.prog 129 #[.agg #[.int .i64 y0,.int .i64 y1,.int .i64 y2,.int .i64 y3,.int .i64 y4,.int .i64 y5,.int .i64 y6,.int .i64 y7],.int .i64 no] w fun e w'=>∃r,Cmp y0 no r∧e= .returned (.int .i64 r)∧Below w.heap.size w w':=by
 go_enter Tryz.func129,Tryz.ntmps129
 go_wp2_with fail
 refine(iCompare y0 no _).mono ?_
 rintro e w1 ⟨r,hr,rfl,rfl⟩
 go_wp2
 go_ret
 exact⟨r,hr,rfl,by repeat(first|exact Below.refl _ _|refine Below.alloc ?_ (by simp;try omega) _)⟩
theorem iSearch(w:World)(g n cap:Nat)(ps:List T8)(no:Int)(hl:ps.length=n)(h20:n≤1048576)(hg:g<w.heap.size)(h:At8 w g ps)(asc:Hid (∀j i,i<j→j<ps.length→(el8 ps i).1<(el8 ps j).1)):
  Calls Tryz.prog 128 #[.slice (some ⟨g,0,none⟩) n cap,.int .i64 no,.func (.func 129) #[] #[]] w fun e w'=>∃c f,IsPlace8 ps no c∧StandsAt8 f ps no c∧e= .returned (.tuple #[.int .i64 (c:Nat),.bool f])∧Below w.heap.size w w':=by
 go_enter Tryz.func128,Tryz.ntmps128
 go_wp2
 go_loopw [9,10] (fun p q wr=>∃(lo hi:Nat),lo≤hi∧hi≤n∧p= .int .i64 lo∧q= .int .i64 hi∧At8 wr g ps∧Below w.heap.size w wr∧Hid ((∀t,t<lo→(el8 ps t).1<no)∧∀t,hi≤t→t<n→no≤(el8 ps t).1)) (fun p q _=>(intOf q).toNat-(intOf p).toNat)
 case atStart=>exact⟨0,n,by omega,by omega,rfl,rfl,h,Below.refl _ _,zh ⟨fun t ht=>by omega,fun t h1 h2=>by omega⟩⟩
 case round=>
  clear h
  obtain⟨lo,hi,hlh,hin,rfl,rfl,h,hb,HI⟩:=hrel
  have sz:=hb.size
  by_cases t:lo<hi
  ·obtain⟨m,hm⟩:∃m,m=(lo+hi)/2:=⟨_,rfl⟩
   obtain⟨e0,e1,e2,e3,e4,e5,e6,e7⟩:=h m (by omega)
   have HA:=zh h
   have HB:=zh hb
   clear h hb
   have LOW:=zh (show(el8 ps m).1<no→∀t,t<m+1→(el8 ps t).1<no from fun hx t ht=>by
    by_cases e:t=m
    ·subst e;exact hx
    ·have:=(zu asc) m t (by omega) (by omega)
     omega)
   have HIGH:=zh (show ¬(el8 ps m).1<no→∀t,m≤t→t<n→no≤(el8 ps t).1 from fun hx t h1 h2=>by
    by_cases e:t=m
    ·subst e;omega
    ·have:=(zu asc) t m (by omega) (by omega)
     omega)
   generalize (el8 ps m).1=y0 at *
   generalize (el8 ps m).2.1=y1 at *
   generalize (el8 ps m).2.2.1=y2 at *
   generalize (el8 ps m).2.2.2.1=y3 at *
   generalize (el8 ps m).2.2.2.2.1=y4 at *
   generalize (el8 ps m).2.2.2.2.2.1=y5 at *
   generalize (el8 ps m).2.2.2.2.2.2.1=y6 at *
   generalize (el8 ps m).2.2.2.2.2.2.2=y7 at *
   have hm':(((lo:Int)+(hi:Int))/2)=((m:Nat):Int):=by omega
   have M1:lo≤m:=by omega
   have M2:m<hi:=by omega
   have HM:=zh hm
   clear hm
   go_wp2_with fail
   refine(iCmp y0 y1 y2 y3 y4 y5 y6 y7 no _).mono ?_
   rintro e w1 ⟨r,hr,rfl,b1⟩
   have bb:=zh (next (zu HB) b1)
   have aa:=zh ((zu HA).below b1 (by omega))
   by_cases lt:y0<no
   ·obtain rfl:r= -1:=by rcases hr with⟨_,e⟩|⟨h1,_⟩|⟨h1,_⟩<;>omega
    have L:=zh ((zu LOW) lt)
    clear hr b1 LOW HIGH
    go_wp2
    go_roundw
    case rel=>exact⟨m+1,hi,by omega,hin,by go_num,rfl,zu aa,zu bb,zh ⟨zu L,(zu HI).2⟩⟩
    case measure=>simp[intOf];omega
   ·have nr:¬r<0:=by rcases hr with⟨h1,_⟩|⟨_,e⟩|⟨_,e⟩<;>omega
    have L:=zh ((zu HIGH) (by omega))
    clear hr b1 LOW HIGH
    go_wp2
    go_roundw
    case rel=>exact⟨lo,m,by omega,by omega,rfl,by go_num,zu aa,zu bb,zh ⟨(zu HI).1,zu L⟩⟩
    case measure=>simp[intOf];omega
  ·obtain rfl:lo=hi:=by omega
   have PL:=zh (show IsPlace8 ps no lo from⟨by omega,(zu HI).1,fun t h1 h2=>(zu HI).2 t h1 (by omega)⟩)
   by_cases lt:lo<n
   ·obtain⟨e0,e1,e2,e3,e4,e5,e6,e7⟩:=h lo (by omega)
    have HA:=zh h
    have HB:=zh hb
    clear h hb
    have FT:=zh (show(el8 ps lo).1=no→StandsAt8 true ps no lo from fun z=>⟨fun _=>⟨by omega,z⟩,fun _=>rfl⟩)
    have FN:=zh (show ¬(el8 ps lo).1=no→StandsAt8 false ps no lo from fun z=>⟨fun e=>Bool.noConfusion e,fun e=>absurd e.2 z⟩)
    generalize (el8 ps lo).1=y0 at *
    generalize (el8 ps lo).2.1=y1 at *
    generalize (el8 ps lo).2.2.1=y2 at *
    generalize (el8 ps lo).2.2.2.1=y3 at *
    generalize (el8 ps lo).2.2.2.2.1=y4 at *
    generalize (el8 ps lo).2.2.2.2.2.1=y5 at *
    generalize (el8 ps lo).2.2.2.2.2.2.1=y6 at *
    generalize (el8 ps lo).2.2.2.2.2.2.2=y7 at *
    go_wp2_with fail
    refine(iCmp y0 y1 y2 y3 y4 y5 y6 y7 no _).mono ?_
    rintro e w1 ⟨r,hr,rfl,b1⟩
    have bb:=zh (next (zu HB) b1)
    by_cases eq:y0=no
    ·obtain rfl:r=0:=by rcases hr with⟨_,e⟩|⟨h1,_⟩|⟨_,e⟩<;>omega
     have FF:=(zu FT) eq
     clear hr b1 FT FN eq
     go_wp2
     go_ret2
     exact⟨lo,true,zu PL,FF,rfl,zu bb⟩
    ·have nr:(r==0)=false:=by rw[beq_eq_false_iff_ne];rcases hr with⟨_,e⟩|⟨h1,_⟩|⟨_,e⟩<;>omega
     have FF:=(zu FN) eq
     clear hr b1 FT FN eq
     go_wp2
     go_ret2
     exact⟨lo,false,zu PL,FF,rfl,zu bb⟩
   ·have HB:=zh hb
    clear h hb
    go_wp2
    go_ret2
    exact⟨lo,false,zu PL,⟨fun e=>Bool.noConfusion e,fun e=>absurd e.1 (by omega)⟩,rfl,zu HB⟩
theorem iPlace(w:World)(x:Bx)(no:Int)(h:Rd w x)(asc:Hid (∀j i,i<j→j<x.b.ts.length→(el8 x.b.ts i).1<(el8 x.b.ts j).1)):
  Calls Tryz.prog 88 #[.agg #[.slice (some ⟨x.ga,0,none⟩) x.b.ac.length x.ca,.slice (some ⟨x.gi,0,none⟩) x.b.ic.length x.ci,.slice (some ⟨x.gb,0,none⟩) x.b.bs.length x.cb,.slice (some ⟨x.gl,0,none⟩) x.b.ls.length x.cl,.slice (some ⟨x.gt,0,none⟩) x.b.ts.length x.ct,.int .i64 x.b.lot],.int .i64 no] w fun e w'=>∃c f,IsPlace8 x.b.ts no c∧StandsAt8 f x.b.ts no c∧e= .returned (.tuple #[.int .i64 (c:Nat),.bool f])∧Below w.heap.size w w':=by
 have S0:=zh (St.start h 40)
 have nt:=h.nt
 have lt:=h.lt
 clear h
 go_enter Tryz.func88,Tryz.ntmps88
 go_wp2_with fail
 refine(iSearch _ x.gt _ x.ct x.b.ts no rfl nt (by simp;omega) (zu S0).r.rt asc).mono ?_
 rintro e w1 ⟨c,f,hc,hf,rfl,b1⟩
 have bb:=zh ((zu S0).step b1).b
 have PC:=zh hc
 have PF:=zh hf
 clear hc hf b1
 go_wp2
 go_ret2
 exact⟨c,f,zu PC,zu PF,rfl,zu bb⟩
end IPlace8
end Go.Proofs.YtpkgkekonhgonaaGreatDoor
