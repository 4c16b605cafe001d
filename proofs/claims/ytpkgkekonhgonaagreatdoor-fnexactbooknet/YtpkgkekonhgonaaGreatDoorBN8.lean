/- Texts of one proof, one behind the other: LegHelp, LegHeld, LawN, LotMore, PostMore, Keep, Net, SNetL, SNet, LayN, SortN, TabN, EntryN, Errs, NetT, NetLegsI, NetA, NetTellI, LaidE. -/
import Derived.Test.YtpkgkekonhgonaaGreatDoorRows
import Derived.Test.YtpkgkekonhgonaaGreatDoorCards
import Derived.Test.YtpkgkekonhgonaaGreatDoorTie
import Derived.Test.YtpkgkekonhgonaaGreatDoorBA1
import Derived.Test.YtpkgkekonhgonaaGreatDoorBA2
import Derived.Test.YtpkgkekonhgonaaGreatDoorBL3
import Derived.Test.YtpkgkekonhgonaaGreatDoorBL4
import Derived.Test.YtpkgkekonhgonaaGreatDoorBL5
import Derived.Test.YtpkgkekonhgonaaGreatDoorBL6
import Derived.Test.YtpkgkekonhgonaaGreatDoorBL7
import Derived.Deep.RegionHeld3
import Derived.Shelf.SlGeneric
import Derived.Shelf.SlSortCmp.WholeK
import Derived.Ground.SlsfProg
import Derived.Maps.OwnOps
import Derived.Maps.RangeWalk
import Derived.Maps.Ext
import Derived.DeepKeys4
import Derived.WideKeyEntry
import Derived.WalkKit
import Derived.LaidEql
import Derived.Stop.Asserts
import Derived.RowKitTokens
import Derived.Stop.LaidErr
import Derived.Deep.DeepCutAuto
import Derived.ProofKit
import Derived.OpenShut
import Derived.Deep.DeepHandedRow
set_option linter.unusedVariables false
set_option linter.unusedSimpArgs false
open Go.ChangeShapes Go.WideShapes Go.ChangeAt Go.RowKit
set_option maxRecDepth 100000
set_option maxHeartbeats 32000000
namespace Go.Proofs
open Go.Shelf
def Tryz.sortN_ren : Go.Shelf.Ren := ⟨fun | 6 => 135 | 15 => 168 | 14 => 167 | 28 => 191 | 29 => 192 | 20 => 183 | 21 => 184 | 22 => 185 | 23 => 186 | 24 => 187 | 25 => 188 | 26 => 189 | 27 => 190 | 46 => 205 | 47 => 206 | 48 => 207 | 49 => 208 | 50 => 209 | 57 => 220 | n => n, fun | 22 => 31 | 24 => 67 | 25 => 169 | 3 => 3 | 39 => 196 | 0 => 0 | 53 => 235 | 55 => 237 | 4 => 4 | 46 => 229 | 45 => 228 | 50 => 128 | 5 => 5 | 9 => 9 | 66 => 244 | 70 => 248 | 76 => 259 | 77 => 59 | n => n, fun | n => n⟩
theorem Tryz.sortN : Go.Proofs.SlLaysF0.n6 Tryz.prog Tryz.sortN_ren := {
  mixed := by kernel_rfl
  f6 := ⟨Tryz.f135.name, by decide, Tryz.func135.trans (congrArg some (by kernel_rfl))⟩
  f14 := ⟨Tryz.f167.name, by decide, Tryz.func167.trans (congrArg some (by kernel_rfl))⟩
  f15 := Tryz.func168.trans (congrArg some (by kernel_rfl))
  f20 := ⟨Tryz.f183.name, by decide, Tryz.func183.trans (congrArg some (by kernel_rfl))⟩
  f21 := ⟨Tryz.f184.name, by decide, Tryz.func184.trans (congrArg some (by kernel_rfl))⟩
  f22 := ⟨Tryz.f185.name, by decide, Tryz.func185.trans (congrArg some (by kernel_rfl))⟩
  f23 := ⟨Tryz.f186.name, by decide, Tryz.func186.trans (congrArg some (by kernel_rfl))⟩
  f24 := ⟨Tryz.f187.name, by decide, Tryz.func187.trans (congrArg some (by kernel_rfl))⟩
  f25 := ⟨Tryz.f188.name, by decide, Tryz.func188.trans (congrArg some (by kernel_rfl))⟩
  f26 := ⟨Tryz.f189.name, by decide, Tryz.func189.trans (congrArg some (by kernel_rfl))⟩
  f27 := ⟨Tryz.f190.name, by decide, Tryz.func190.trans (congrArg some (by kernel_rfl))⟩
  f28 := Tryz.func191.trans (congrArg some (by kernel_rfl))
  f29 := Tryz.func192.trans (congrArg some (by kernel_rfl))
  f46 := ⟨Tryz.f205.name, by decide, Tryz.func205.trans (congrArg some (by kernel_rfl))⟩
  f47 := Tryz.func206.trans (congrArg some (by kernel_rfl))
  f48 := Tryz.func207.trans (congrArg some (by kernel_rfl))
  f49 := ⟨Tryz.f208.name, by decide, Tryz.func208.trans (congrArg some (by kernel_rfl))⟩
  f50 := ⟨Tryz.f209.name, by decide, Tryz.func209.trans (congrArg some (by kernel_rfl))⟩
  f57 := ⟨Tryz.f220.name, by decide, Tryz.func220.trans (congrArg some (by kernel_rfl))⟩
  t0 := Tryz.underlying0
  a0 := Tryz.isAgg0
  z0 := Tryz.sizeOf0
  v0 := Tryz.zeroValue0
  t3 := Tryz.underlying3
  a3 := Tryz.isAgg3
  z3 := Tryz.sizeOf3
  v3 := Tryz.zeroValue3
  t4 := Tryz.underlying4
  a4 := Tryz.isAgg4
  z4 := Tryz.sizeOf4
  v4 := Tryz.zeroValue4
  t5 := Tryz.underlying5
  a5 := Tryz.isAgg5
  z5 := Tryz.sizeOf5
  v5 := Tryz.zeroValue5
  t9 := Tryz.underlying9
  a9 := Tryz.isAgg9
  z9 := Tryz.sizeOf9
  v9 := Tryz.zeroValue9
  t22 := Tryz.underlying31
  a22 := Tryz.isAgg31
  z22 := Tryz.sizeOf31
  v22 := Tryz.zeroValue31
  t25 := Tryz.underlying169
  a25 := Tryz.isAgg169
  z25 := Tryz.sizeOf169
  v25 := Tryz.zeroValue169
  t39 := Tryz.underlying196
  a39 := Tryz.isAgg196
  z39 := Tryz.sizeOf196
  v39 := Tryz.zeroValue196
  t45 := Tryz.underlying228
  a45 := Tryz.isAgg228
  z45 := Tryz.sizeOf228
  v45 := Tryz.zeroValue228
  t46 := Tryz.underlying229
  a46 := Tryz.isAgg229
  z46 := Tryz.sizeOf229
  v46 := Tryz.zeroValue229
  t50 := Tryz.underlying128
  a50 := Tryz.isAgg128
  z50 := Tryz.sizeOf128
  v50 := Tryz.zeroValue128
  t53 := Tryz.underlying235
  a53 := Tryz.isAgg235
  z53 := Tryz.sizeOf235
  v53 := Tryz.zeroValue235
  t55 := Tryz.underlying237
  a55 := Tryz.isAgg237
  z55 := Tryz.sizeOf237
  v55 := Tryz.zeroValue237
  t66 := Tryz.underlying244
  a66 := Tryz.isAgg244
  z66 := Tryz.sizeOf244
  v66 := Tryz.zeroValue244
  t70 := Tryz.underlying248
  a70 := Tryz.isAgg248
  z70 := Tryz.sizeOf248
  v70 := Tryz.zeroValue248
  t76 := Tryz.underlying259
  a76 := Tryz.isAgg259
  z76 := Tryz.sizeOf259
  v76 := Tryz.zeroValue259
  t77 := Tryz.underlying59
  a77 := Tryz.isAgg59
  z77 := Tryz.sizeOf59
  v77 := Tryz.zeroValue59 }
end Go.Proofs
namespace Go.Proofs.YtpkgkekonhgonaaGreatDoor
namespace LegHelp
open Bals Triples
theorem eq1(w:World)(x y z:Int):Calls Tryz.prog 39 #[.agg #[.int .i64 x,.int .i64 y,.int .i64 z],.agg #[.int .i64 x,.int .i64 y,.int .i64 z]] w fun e w'=>e= .returned (.bool true)∧w'=(w.alloc (.cells #[.int .i64 x,.int .i64 y,.int .i64 z] 67)).alloc (.cells #[.int .i64 x,.int .i64 y,.int .i64 z] 67):=by
 go_enter Tryz.func39,Tryz.ntmps39
 go_wp2
 go_ret
 exact⟨rfl,rfl⟩
theorem two_more(w:World)(o p:Obj):Below w.heap.size w ((w.alloc o).alloc p).drew:=(((Below.refl _ _).alloc (Nat.le_refl _) _).alloc (by simp) _).drew
theorem eqS(w:World)(g1 g2 n c1 c2:Nat)(ps:List T3)(hl:ps.length=n)(h20:n≤1048576)(l1:g1<w.heap.size)(l2:g2<w.heap.size)(h1:At3 w g1 ps)(h2:At3 w g2 ps):
  Calls Tryz.prog 10 #[.slice (some ⟨g1,0,none⟩) n c1,.slice (some ⟨g2,0,none⟩) n c2] w fun e w'=>e= .returned (.bool true)∧Below w.heap.size w w':=by
 go_enter Tryz.func10,Tryz.ntmps10
 go_wp2
 go_loopw [5] (fun i wr=>∃(k:Nat),k≤n∧i= .int .i64 k∧At3 wr g1 ps∧At3 wr g2 ps∧Below w.heap.size w wr) (fun i _=>n-(intOf i).toNat)
 case atStart=>exact⟨0,by omega,rfl,h1,h2,Below.refl _ _⟩
 case round=>
  clear h1 h2
  obtain⟨k,hk,rfl,h1,h2,hb⟩:=hrel
  by_cases t:k<n
  ·obtain⟨e1,f1,i1⟩:=h1 k (by omega)
   obtain⟨e2,f2,i2⟩:=h2 k (by omega)
   have s:=hb.size
   have H1:=zh h1
   have H2:=zh h2
   have HB:=zh hb
   clear h1 h2 hb
   generalize (el3 ps k).1=x at *
   generalize (el3 ps k).2.1=y at *
   generalize (el3 ps k).2.2=z at *
   go_wp2_with fail
   go_region_held3 (fun w'=>w'.cell? ⟨g1,k*3,none⟩=some (.int .i64 x)∧w'.cell? ⟨g2,k*3,none⟩=some (.int .i64 x)∧w'.cell? ⟨g1,k*3+1,none⟩=some (.int .i64 y)∧w'.cell? ⟨g2,k*3+1,none⟩=some (.int .i64 y)∧w'.cell? ⟨g1,k*3+2,none⟩=some (.int .i64 z)∧w'.cell? ⟨g2,k*3+2,none⟩=some (.int .i64 z)) (go_keep)
    (first|(go_at_call 39;refine(eq1 _ _ _ _).mono ?_;rintro e w2 ⟨rfl,rfl⟩))
   all_goals(go_wp2;go_roundw)
   all_goals first
    |(have b2:=two_more wr (.cells #[.int .i64 x,.int .i64 y,.int .i64 z] 67) (.cells #[.int .i64 x,.int .i64 y,.int .i64 z] 67)
      exact⟨k+1,by omega,by go_num,(zu H1).below b2 (by omega),(zu H2).below b2 (by omega),next (zu HB) b2⟩)
    |(simp[intOf];omega)
  ·have HB:=zh hb
   clear h1 h2 hb
   go_wp2
   go_ret
   exact⟨rfl,zu HB⟩
def marks(s:Int)(n:Nat):List T3:=(List.range n).map fun(i:Nat)=>(s+3*(i:Int),s+3*(i:Int)+1,s+3*(i:Int)+2)
theorem marks_len(s:Int)(n:Nat):(marks s n).length=n:=by simp[marks]
theorem marks_getD(s:Int)(n i:Nat)(h:i<n):el3 (marks s n) i=(s+3*(i:Int),s+3*(i:Int)+1,s+3*(i:Int)+2):=by simp[marks,List.getD,h]
def marked(s:Int)(ps:List T3)(n j:Nat):List T3:=(marks s n).take j++ps.drop j
theorem marked_zero(s:Int)(ps:List T3)(n:Nat):marked s ps n 0=ps:=by simp[marked]
theorem marked_all(s:Int)(ps:List T3)(n:Nat)(h:ps.length=n):marked s ps n n=marks s n:=by
 unfold marked
 rw[List.take_of_length_le (by rw[marks_len];exact Nat.le_refl _),List.drop_of_length_le (by omega),List.append_nil]
theorem marked_step(s:Int)(ps:List T3)(n j:Nat)(h:ps.length=n)(hj:j<n):(((marked s ps n j).modify j fun p=>(s+3*(j:Int),p.2)).modify j (fun p=>(p.1,s+3*(j:Int)+1,p.2.2))).modify j (fun p=>(p.1,p.2.1,s+3*(j:Int)+1+1))=marked s ps n (j+1):=by
 unfold marked
 have l:=marks_len s n
 have g:=marks_getD s n j hj
 have l1:((marks s n).take j).length=j:=by simp;omega
 have l2:((marks s n).take (j+1)).length=j+1:=by simp;omega
 apply List.ext_getElem?
 intro i
 rw[List.getElem?_modify,List.getElem?_modify,List.getElem?_modify]
 by_cases e:j=i
 ·subst e
  rw[List.getElem?_append_right (by omega),List.getElem?_append_left (by omega),List.getElem?_take,if_pos (by omega),l1]
  have hg:(marks s n)[j]?=some (s+3*(j:Int),s+3*(j:Int)+1,s+3*(j:Int)+2):=by
   rw[←g];simp[List.getD,l,hj]
  rw[hg]
  simp[List.getElem?_drop,h,hj]
  omega
 ·by_cases d:i<j
  ·rw[List.getElem?_append_left (by omega),List.getElem?_append_left (by omega),List.getElem?_take,List.getElem?_take,if_pos d,if_pos (by omega)]
   simp[e]
  ·rw[List.getElem?_append_right (by omega),List.getElem?_append_right (by omega),l1,l2]
   simp only[List.getElem?_drop]
   rw[show j+(i-j)=i by omega,show j+1+(i-(j+1))=i by omega]
   simp[e]
theorem markS(w:World)(base g n cap:Nat)(s:Int)(ps:List T3)(h20:n≤1048576)(s0:0≤s)(s1:s≤100000000)(ho:Own3 67 w base g n cap ps):
  Calls Tryz.prog 15 #[.slice (some ⟨g,0,none⟩) n cap,.int .i64 s] w fun e w'=>e= .returned (.int .i64 (s+3*(n:Int)))∧Own3 67 w' base g n cap (marks s n)∧w.grownBy w' (some g):=by
 have hl:=ho.len
 have ho':Own3 67 w base g n cap (marked s ps n 0):=by rw[marked_zero];exact ho
 clear ho
 go_enter Tryz.func15,Tryz.ntmps15
 go_wp2
 go_loopw [1,5] (fun m i wr=>∃(k:Nat),k≤n∧i= .int .i64 k∧m= .int .i64 (s+3*(k:Int))∧Own3 67 wr base g n cap (marked s ps n k)∧w.grownBy wr (some g)) (fun _ i _=>n-(intOf i).toNat)
 case atStart=>exact⟨0,by omega,rfl,by go_num,ho',World.grownBy.refl _ _⟩
 case round=>
  clear ho'
  obtain⟨k,hk,rfl,rfl,hown,hg⟩:=hrel
  by_cases t:k<n
  ·obtain⟨o1,q1⟩:=hown.set0 k (s+3*(k:Int))
   obtain⟨o2,q2⟩:=o1.set1 k (s+3*(k:Int)+1)
   obtain⟨o3,q3⟩:=o2.set2 k (s+3*(k:Int)+1+1)
   obtain⟨hd0,hd1,hd2⟩:=hown.at k (by rw[Own3.len hown];exact t)
   have hf0:=hown.free (k*3)
   have hf1:=hown.free (k*3+1)
   have hf2:=hown.free (k*3+2)
   rw[marked_step s ps n k hl t] at o3
   have HO:=zh o3
   have HG:=zh (grown_trans (grown_trans (grown_trans hg q1) q2) q3)
   clear hown hg o1 q1 o2 q2 o3 q3
   generalize (el3 (marked s ps n k) k).1=z0 at hd0
   generalize (el3 (marked s ps n k) k).2.1=z1 at hd1
   generalize (el3 (marked s ps n k) k).2.2=z2 at hd2
   have r1:IntKind.i64.wrap (s+3*(k:Int)+1)=s+3*(k:Int)+1:=by rw[IntKind.wrap_i64];omega
   have r2:IntKind.i64.wrap (s+3*(k:Int)+1+1)=s+3*(k:Int)+1+1:=by rw[IntKind.wrap_i64];omega
   have r3:IntKind.i64.wrap (s+3*(k:Int)+1+1+1)=s+3*(k:Int)+1+1+1:=by rw[IntKind.wrap_i64];omega
   go_wp2
   go_roundw
   case rel=>exact⟨k+1,by omega,by go_num,by go_num,zu HO,zu HG⟩
   case measure=>simp[intOf];omega
  ·obtain rfl:k=n:=by omega
   rw[marked_all s ps k hl] at hown
   have HO:=zh hown
   have HG:=zh hg
   clear hown hg
   go_wp2
   go_ret
   exact⟨rfl,zu HO,zu HG⟩
end LegHelp
namespace LegHeld
open Triples
open LegHelp (marks marks_len marks_getD)
theorem heldS(w:World)(g n cap:Nat)(s:Int)(h20:n≤1048576)(s0:0≤s)(s1:s≤100000000)(h:At3 w g (marks s n)):
  Calls Tryz.prog 16 #[.slice (some ⟨g,0,none⟩) n cap,.int .i64 s] w fun e w'=>e= .returned (.int .i64 (s+3*(n:Int)))∧w'=w:=by
 go_enter Tryz.func16,Tryz.ntmps16
 go_wp2
 go_loop [1,5] (fun m i=>∃(k:Nat),k≤n∧i= .int .i64 k∧m= .int .i64 (s+3*(k:Int))) (fun _ i=>n-(intOf i).toNat)
 case atStart=>exact⟨0,by omega,rfl,by go_num⟩
 case round=>
  obtain⟨k,hk,rfl,rfl⟩:=hrel
  by_cases t:k<n
  ·obtain⟨e0,e1,e2⟩:=h k (by rw[marks_len];exact t)
   rw[marks_getD s n k t] at e0 e1 e2
   have e2:w.cell? ⟨g,k*3+2,none⟩=some (.int .i64 (s+3*(k:Int)+1+1)):=by rw[e2];simp;omega
   clear h
   go_wp2
   go_round
   case rel=>exact⟨k+1,by omega,by go_num,by go_num⟩
   case measure=>simp[intOf];omega
  ·obtain rfl:k=n:=by omega
   clear h
   go_wp2
   go_ret
   exact⟨rfl,rfl⟩
end LegHeld
namespace LawN
open BMem Bks BHelp BkEq LawB
open LawQ
open Ans (Off)
open Bals (T3)
open Triples (Own3)
theorem own3_turn{W W':World}{e:TypeId}{base g n c:Nat}{xs:List T3}{x:Bx}(h:Own3 e W base g n c xs)(k:Turn x W W')(ne:(∃N,g<N∧Lo x N)∨∃N,N≤g∧Up x N):Own3 e W' base g n c xs:=by
 have l:=h.lt.2
 have q:W'.heap[g]?=W.heap[g]?:=by
  refine k.block g l ?_ ?_ ?_ ?_ ?_
  all_goals
   rcases ne with⟨N,a,b⟩|⟨N,a,b⟩
   ·unfold Lo at b;omega
   ·unfold Up at b;omega
 refine⟨h.1,?_⟩
 rcases h.2 with⟨h1,_⟩|⟨g',c',cur,h1,h2,h3,h4⟩
 ·simp at h1
 ·obtain⟨e',_⟩:g=g'∧c=c':=by simpa using h1
  subst e'
  exact Or.inr ⟨g,c',cur,h1,h2,by rw[q];exact h3,h4⟩
theorem own3_off{W W':World}{e:TypeId}{base g n c:Nat}{xs:List T3}{x:Bx}(h:Own3 e W base g n c xs)(k:Turn x W W')(off:Off x g):Own3 e W' base g n c xs:=by
 have l:=h.lt.2
 have q:W'.heap[g]?=W.heap[g]?:=k.block g l off.1.symm off.2.1.symm off.2.2.1.symm off.2.2.2.1.symm off.2.2.2.2.symm
 refine⟨h.1,?_⟩
 rcases h.2 with⟨h1,_⟩|⟨g',c',cur,h1,h2,h3,h4⟩
 ·simp at h1
 ·obtain⟨e',_⟩:g=g'∧c=c':=by simpa using h1
  subst e'
  exact Or.inr ⟨g,c',cur,h1,h2,by rw[q];exact h3,h4⟩
theorem off_legs{W:World}{base base' g n c:Nat}{xs:List T3}{x:Bx}(O:Ow W base x)(h:Own3 67 W base' g n c xs):Off x g:=
 ⟨SIssue.row_ne O.oa h (by decide),SIssue.row_ne O.oi h (by decide),SIssue.row_ne O.ob h (by decide),SIssue.row_ne O.ol h (by decide),SIssue.row_ne O.ot h (by decide)⟩
theorem Bv.grown{W W':World}{g p:Nat}{x:Bx}(h:Bv W p x)(k:W.grownBy W' (some g))(hn:p≠g):Bv W' p x:=by
 have n:some p≠some g:=fun e=>by injection e;omega
 exact⟨⟨k.cell h.c.c0 n,k.cell h.c.c1 n,k.cell h.c.c2 n,k.cell h.c.c3 n,k.cell h.c.c4 n,k.cell h.c.c5 n⟩,Nat.lt_of_lt_of_le h.l k.size⟩
theorem Zv.grown{W W':World}{g p:Nat}(h:Zv W p)(k:W.grownBy W' (some g))(hn:p≠g):Zv W' p:=by
 have n:some p≠some g:=fun e=>by injection e;omega
 exact⟨k.cell h.c0 n,k.cell h.c1 n,k.cell h.c2 n,k.cell h.c3 n,k.cell h.c4 n,k.cell h.c5 n,Nat.lt_of_lt_of_le h.l k.size⟩
theorem ow_off{W W':World}{base g:Nat}{z:Bx}(h:Ow W base z)(k:W.grownBy W' (some g))(off:Off z g):Ow W' base z:=
 ⟨h.oa.kept k (fun e=>by injection e with e;exact off.1 e),h.oi.kept k (fun e=>by injection e with e;exact off.2.1 e),h.ob.kept k (fun e=>by injection e with e;exact off.2.2.1 e),h.ol.kept k (fun e=>by injection e with e;exact off.2.2.2.1 e),h.ot.kept k (fun e=>by injection e with e;exact off.2.2.2.2 e)⟩
theorem owm_off{W W':World}{base g:Nat}{z:Bx}(h:OwM W base z)(k:W.grownBy W' (some g))(off:Off z g):OwM W' base z:=
 ⟨h.oa.kept k (fun e=>by injection e with e;exact off.1 e),h.oi.kept k (fun e=>by injection e with e;exact off.2.1 e),h.ob.kept k (fun e=>by injection e with e;exact off.2.2.1 e),h.ol.kept k (fun e=>by injection e with e;exact off.2.2.2.1 e),h.ot.kept k (fun e=>by injection e with e;exact off.2.2.2.2 e)⟩
theorem QH_grown{w W W':World}{y:Ix}{z g:Bx}{pz pg gg:Nat}(H:RdI w y)(h:QH w W y z g pz pg)(k:W.grownBy W' (some gg))(h1:pz<gg)(h2:pg≠gg)(off:Off g gg):QH w W' y z g pz pg:=by
 have n:=h.q.n
 exact⟨⟨LawT.LB.grown H h.q.l k (by omega),Bv.grown h.q.bz k (by omega),ow_off h.q.oz k (Ans.off_up h.q.uz (by omega)),h.q.uz,n⟩,Bv.grown h.bg k h2,owm_off h.og k off⟩
theorem ZG_grown{w W W':World}{y:Ix}{pz pg gg:Nat}(H:RdI w y)(h:ZG w W y pz pg)(k:W.grownBy W' (some gg))(h0:w.heap.size<gg)(h1:pz≠gg)(h2:pg≠gg):ZG w W' y pz pg:=
 ⟨LawT.LB.grown H h.l k h0,Zv.grown h.zz k h1,Zv.grown h.zg k h2⟩
end LawN
namespace LotMore
open Tup5 Lots Takes
theorem merge_part_l{f:T5→Bool}:∀(n:Nat) (A B:List T5),A.length+B.length≤n→(∀p∈B,f p=false)→(mergeL n A B).filter f=A.filter f
 |0,[],[],_,_=>rfl
 |0,x::A,_,h,_=>by simp at h
 |0,[],y::B,h,_=>by simp at h
 |n+1,[],B,h,hB=>by rw[merge_right _ _ (by simpa using h),filter_none hB];rfl
 |n+1,x::A,[],h,hB=>by rw[merge_left _ _ (by simpa using h)]
 |n+1,x::A,y::B,h,hB=>by
  by_cases e:Bef x y
  ·rw[merge_yes e,List.filter_cons,List.filter_cons,merge_part_l n A (y::B) (by simp at h⊢;omega) hB]
  ·rw[merge_no e,List.filter_cons_of_neg (by rw[hB y List.mem_cons_self];simp),merge_part_l n (x::A) B (by simp at h⊢;omega) (fun p hp=>hB p (List.mem_cons_of_mem _ hp))]
theorem merge_part_r{f:T5→Bool}:∀(n:Nat) (A B:List T5),A.length+B.length≤n→(∀p∈A,f p=false)→(mergeL n A B).filter f=B.filter f
 |0,[],[],_,_=>rfl
 |0,x::A,_,h,_=>by simp at h
 |0,[],y::B,h,_=>by simp at h
 |n+1,[],B,h,hB=>by rw[merge_right _ _ (by simpa using h)]
 |n+1,x::A,[],h,hB=>by rw[merge_left _ _ (by simpa using h),filter_none hB];rfl
 |n+1,x::A,y::B,h,hA=>by
  by_cases e:Bef x y
  ·rw[merge_yes e,List.filter_cons_of_neg (by rw[hA x List.mem_cons_self];simp),merge_part_r n A (y::B) (by simp at h⊢;omega) (fun p hp=>hA p (List.mem_cons_of_mem _ hp))]
  ·rw[merge_no e,List.filter_cons,List.filter_cons,merge_part_r n (x::A) B (by simp at h⊢;omega) hA]
theorem merge_mem:∀(n:Nat) (A B:List T5),A.length+B.length≤n→∀p,p∈mergeL n A B↔p∈A∨p∈B
 |0,[],[],_,p=>by simp[mergeL]
 |0,x::A,_,h,_=>by simp at h
 |0,[],y::B,h,_=>by simp at h
 |n+1,[],B,h,p=>by rw[merge_right _ _ (by simpa using h)];simp
 |n+1,x::A,[],h,p=>by rw[merge_left _ _ (by simpa using h)];simp
 |n+1,x::A,y::B,h,p=>by
  by_cases e:Bef x y
  ·rw[merge_yes e,List.mem_cons,merge_mem n A (y::B) (by simp at h⊢;omega),List.mem_cons,List.mem_cons]
   constructor
   ·rintro(h|h|h)
    ·exact .inl (.inl h)
    ·exact .inl (.inr h)
    ·exact .inr h
   ·rintro((h|h)|h)
    ·exact .inl h
    ·exact .inr (.inl h)
    ·exact .inr (.inr h)
  ·rw[merge_no e,List.mem_cons,merge_mem n (x::A) B (by simp at h⊢;omega),List.mem_cons,List.mem_cons]
   constructor
   ·rintro(h|(h|h)|h)
    ·exact .inr (.inl h)
    ·exact .inl (.inl h)
    ·exact .inl (.inr h)
    ·exact .inr (.inr h)
   ·rintro((h|h)|h|h)
    ·exact .inr (.inl (.inl h))
    ·exact .inr (.inl (.inr h))
    ·exact .inl h
    ·exact .inr (.inr h)
theorem merge_asc:∀(n:Nat) (A B:List T5),A.length+B.length≤n→A.Pairwise Bef→B.Pairwise Bef→(∀x∈A,∀y∈B,Bef x y∨Bef y x)→(mergeL n A B).Pairwise Bef
 |0,[],[],_,_,_,_=>List.Pairwise.nil
 |0,x::A,_,h,_,_,_=>by simp at h
 |0,[],y::B,h,_,_,_=>by simp at h
 |n+1,[],B,h,_,hB,_=>by rw[merge_right _ _ (by simpa using h)];exact hB
 |n+1,x::A,[],h,hA,_,_=>by rw[merge_left _ _ (by simpa using h)];exact hA
 |n+1,x::A,y::B,h,hA,hB,hX=>by
  obtain⟨a1,a2⟩:=List.pairwise_cons.1 hA
  obtain⟨b1,b2⟩:=List.pairwise_cons.1 hB
  by_cases e:Bef x y
  ·rw[merge_yes e,List.pairwise_cons]
   have hn:A.length+(y::B).length≤n:=by simp at h⊢;omega
   refine⟨fun z hz=>?_,merge_asc n A (y::B) hn a2 hB (fun x' hx y' hy=>hX x' (List.mem_cons_of_mem _ hx) y' hy)⟩
   rcases(merge_mem n A (y::B) hn z).1 hz with h|h
   ·exact a1 z h
   ·rcases List.mem_cons.1 h with rfl|h
    ·exact e
    ·exact bef_trans e (b1 z h)
  ·rw[merge_no e,List.pairwise_cons]
   have e':Bef y x:=(hX x List.mem_cons_self y List.mem_cons_self).resolve_left e
   have hn:(x::A).length+B.length≤n:=by simp at h⊢;omega
   refine⟨fun z hz=>?_,merge_asc n (x::A) B hn hA b2 (fun x' hx y' hy=>hX x' hx y' (List.mem_cons_of_mem _ hy))⟩
   rcases(merge_mem n (x::A) B hn z).1 hz with h|h
   ·rcases List.mem_cons.1 h with rfl|h
    ·exact e'
    ·exact bef_trans e' (a1 z h)
   ·exact b1 z h
theorem right_of{ps:List T5}(h120:ps.length≤120)(h1:∀p∈ps,One p)(h2:ps.Pairwise Bef)(h3:∀a i,qtyOf ps a i≤1000000000000000∧costOf ps a i≤1000000000000000):Right ps:=by
 refine⟨h120,fun i hi=>⟨h1 _ (getD_mem hi),fun i0=>?_⟩,h3⟩
 have:=List.pairwise_iff_getElem.1 h2 (i-1) i (by omega) hi (by omega)
 simpa[el5,List.getD,hi,show i-1<ps.length by omega] using this
theorem right_one{ps:List T5}(h:Right ps):∀p∈ps,One p:=fun p hp=>by
 obtain⟨j,hj,rfl⟩:=mem_getD hp
 exact(h.2.1 j hj).1
theorem own_rest_len(a i:Int):∀(ps:List T5),(ownL ps a i).length+(restL ps a i).length=ps.length
 |[]=>rfl
 |p::r=>by
  have:=own_rest_len a i r
  unfold ownL restL at this⊢
  by_cases e:p.1=a∧p.2.1=i
  ·rw[List.filter_cons_of_pos (by simpa using e),List.filter_cons_of_neg (by simp[e])]
   simp only[List.length_cons]
   omega
  ·rw[List.filter_cons_of_neg (by simpa using e),List.filter_cons_of_pos (by simp[e])]
   simp only[List.length_cons]
   omega
theorem key_own{ps:List T5}{a i:Int}{p:T5}(h:p∈ownL ps a i):p.1=a∧p.2.1=i:=by simpa using(List.mem_filter.1 h).2
theorem key_rest{ps:List T5}{a i:Int}{p:T5}(h:p∈restL ps a i):¬(p.1=a∧p.2.1=i):=by
 have:=(List.mem_filter.1 h).2
 intro e
 rw[decide_eq_true e] at this
 simp at this
theorem own_of_rest{a i b j:Int}(h:¬(b=a∧j=i))(ps:List T5):ownL (restL ps a i) b j=ownL ps b j:=by
 unfold ownL restL
 rw[List.filter_filter]
 apply List.filter_congr
 intro p _
 by_cases e:p.1=b∧p.2.1=j
 ·have:¬(p.1=a∧p.2.1=i):=fun k=>h ⟨e.1.symm.trans k.1,e.2.symm.trans k.2⟩
  simp[e,this,h]
 ·simp[e]
structure Fits(ps L:List T5)(a i:Int):Prop where
 key:∀p∈L,p.1=a∧p.2.1=i
 one:∀p∈L,One p
 asc:L.Pairwise Bef
 len:L.length≤(ownL ps a i).length
 qty:sumQ L≤1000000000000000
 cost:sumC L≤1000000000000000
theorem Fits.own{ps L:List T5}{a i:Int}{n:Nat}(f:Fits ps L a i)(hn:(restL ps a i).length+L.length≤n):ownL (mergeL n (restL ps a i) L) a i=L:=by
 unfold ownL
 rw[merge_part_r n _ _ hn (fun p hp=>decide_eq_false (key_rest hp)),filter_all (fun p hp=>decide_eq_true (f.key p hp))]
theorem Fits.other{ps L:List T5}{a i b j:Int}{n:Nat}(f:Fits ps L a i)(hn:(restL ps a i).length+L.length≤n)(h:¬(b=a∧j=i)):ownL (mergeL n (restL ps a i) L) b j=ownL ps b j:=by
 rw[←own_of_rest h ps]
 unfold ownL
 exact merge_part_l n _ _ hn (fun p hp=>decide_eq_false fun e=>h ⟨e.1.symm.trans (f.key p hp).1,e.2.symm.trans (f.key p hp).2⟩)
theorem Fits.right{ps L:List T5}{a i:Int}{n:Nat}(f:Fits ps L a i)(h:Right ps)(hn:(restL ps a i).length+L.length≤n):Right (mergeL n (restL ps a i) L):=by
 refine right_of ?_ (fun p hp=>?_) ?_ (fun b j=>?_)
 ·rw[merge_len _ _ _ hn]
  have:=own_rest_len a i ps
  have:=f.len
  have:=h.1
  omega
 ·rcases(merge_mem n _ _ hn p).1 hp with h1|h1
  ·exact right_one h p (List.mem_filter.1 h1).1
  ·exact f.one p h1
 ·refine merge_asc n _ _ hn (own_asc h.asc a i).2 f.asc (fun x hx y hy=>?_)
  have h1:=key_rest hx
  have h2:=f.key y hy
  unfold Bef
  omega
 ·obtain⟨e1,e2⟩:=own_sums b j (mergeL n (restL ps a i) L)
  rw[←e1,←e2]
  by_cases e:b=a∧j=i
  ·obtain⟨rfl,rfl⟩:=e
   rw[f.own hn]
   exact⟨f.qty,f.cost⟩
  ·rw[f.other hn e]
   exact(own_pos h b j).2
def k3(p:T5):Int×Int×Int:=(p.1,p.2.1,p.2.2.1)
def Bef3(p q:Int×Int×Int):Prop:=p.1<q.1∨(p.1=q.1∧(p.2.1<q.2.1∨(p.2.1=q.2.1∧p.2.2<q.2.2)))
theorem asc_k3(l:List T5):l.Pairwise Bef↔(l.map k3).Pairwise Bef3:=by
 rw[List.pairwise_map]
 exact Iff.rfl
theorem leftF_shape:∀(l:List T5) (q:Int),(∀p∈l,Pos p)→leftF l q=[]∨∃(A:List T5) (p p':T5) (r:List T5),l=A++p::r∧leftF l q=p'::r∧k3 p'=k3 p∧1≤p'.2.2.2.1∧p'.2.2.2.1≤p.2.2.2.1∧0≤p'.2.2.2.2∧p'.2.2.2.2≤p.2.2.2.2
 |[],q,_=> .inl rfl
 |p::r,q,h=>by
  have hp:=h p List.mem_cons_self
  have hp2:=hp
  unfold Pos at hp
  rw[leftF_cons]
  by_cases c1:q≤0
  ·rw[if_pos c1]
   exact .inr ⟨[],p,p,r,rfl,rfl,rfl,hp.1.1,Int.le_refl _,hp.2.1,Int.le_refl _⟩
  ·rw[if_neg c1]
   by_cases c2:p.2.2.2.1≤q
   ·rw[if_pos c2]
    rcases leftF_shape r (q-p.2.2.2.1) (fun z hz=>h z (List.mem_cons_of_mem _ hz)) with e|⟨A,x,x',s,e1,e2,e3⟩
    ·exact .inl e
    ·exact .inr ⟨p::A,x,x',s,by rw[e1];rfl,e2,e3⟩
   ·rw[if_neg c2]
    have d:=div_le (c:=p.2.2.2.2) (t:=q) (x:=p.2.2.2.1) hp.2.1 (by omega) (by omega) hp.1.1
    refine .inr ⟨[],p,_,r,rfl,rfl,rfl,?_,?_,?_,?_⟩
    ·show 1≤p.2.2.2.1-q;omega
    ·show p.2.2.2.1-q≤p.2.2.2.1;omega
    ·show 0≤p.2.2.2.2-p.2.2.2.2*q/p.2.2.2.1;omega
    ·show p.2.2.2.2-p.2.2.2.2*q/p.2.2.2.1≤p.2.2.2.2;omega
theorem leftF_sums:∀(l:List T5) (q:Int),(∀p∈l,Pos p)→0≤q→q≤sumQ l→sumQ (leftF l q)=sumQ l-q∧sumC (leftF l q)=sumC l-costF l q
 |[],q,_,q0,q1=>by
  have:q=0:=by simp[sumQ] at q1;omega
  subst this
  simp[leftF,costF,sumQ,sumC]
 |p::r,q,h,q0,q1=>by
  rw[leftF_cons,costF_cons]
  by_cases c1:q≤0
  ·have:q=0:=by omega
   rw[if_pos c1,if_pos c1]
   simp only[sumQ,sumC]
   omega
  ·rw[if_neg c1,if_neg c1]
   by_cases c2:p.2.2.2.1≤q
   ·rw[if_pos c2,if_pos c2]
    simp only[sumQ] at q1
    obtain⟨e1,e2⟩:=leftF_sums r (q-p.2.2.2.1) (fun z hz=>h z (List.mem_cons_of_mem _ hz)) (by omega) (by omega)
    simp only[sumQ,sumC]
    omega
   ·rw[if_neg c2,if_neg c2]
    simp only[sumQ,sumC]
    omega
section
variable {way q:Int} {own:List T5}
theorem take_sums(h:∀p∈own,Pos p)(hw:1≤way∧way≤3)(q1:1≤q)(q2:q≤sumQ own):sumQ (takeL way own q)=sumQ own-q∧sumC (takeL way own q)=sumC own-takeC way own q:=by
 unfold takeL takeC
 by_cases w:way=3
 ·rw[if_pos w,if_pos w]
  unfold meanL meanC
  by_cases e:q=sumQ own
  ·rw[if_pos e,←e,Int.mul_ediv_cancel _ (by omega)]
   simp only[sumQ,sumC]
   omega
  ·rw[if_neg e]
   simp only[sumQ,sumC]
   omega
 ·rw[if_neg w,if_neg w]
  unfold leftW costW
  obtain⟨d1,d2⟩:=dir_sum way (leftF (dirL way own) q)
  obtain⟨d3,d4⟩:=dir_sum way own
  obtain⟨e1,e2⟩:=leftF_sums (dirL way own) q (fun p hp=>h p (dir_mem.1 hp)) (by omega) (by omega)
  rw[d1,d2,e1,e2,d3,d4]
  exact⟨rfl,rfl⟩
theorem takeC_bd(h:∀p∈own,Pos p)(q1:1≤q)(q2:q≤sumQ own):0≤takeC way own q∧takeC way own q≤sumC own:=by
 unfold takeC
 have sp:=sum_pos own h
 by_cases w:way=3
 ·rw[if_pos w]
  unfold meanC
  exact div_le sp.2 (by omega) q2 (by omega)
 ·rw[if_neg w]
  unfold costW
  have:=costF_bd (dirL way own) q (by omega) (fun p hp=>h p (dir_mem.1 hp))
  rw[(dir_sum way own).2] at this
  exact this
end
theorem dir_map{way:Int}(f:T5→Int×Int×Int)(l:List T5):(dirL way l).map f=if way=2 then(l.map f).reverse else l.map f:=by
 unfold dirL
 split
 ·rw[List.map_reverse]
 ·rfl
theorem take_subl{way q:Int}{own:List T5}(h:∀p∈own,Pos p)(ne:0<own.length):((takeL way own q).map k3).Sublist (own.map k3):=by
 unfold takeL
 by_cases w:way=3
 ·rw[if_pos w]
  unfold meanL
  split
  ·exact List.nil_sublist _
  ·cases own with
   |nil=>simp at ne
   |cons p r=>exact List.Sublist.cons_cons _ (List.nil_sublist _)
 ·rw[if_neg w]
  unfold leftW
  have key:((leftF (dirL way own) q).map k3).Sublist ((dirL way own).map k3):=by
   rcases leftF_shape (dirL way own) q (fun p hp=>h p (dir_mem.1 hp)) with e|⟨A,p,p',r,e1,e2,e3,_⟩
   ·rw[e];exact List.nil_sublist _
   ·rw[e2,e1,List.map_append,List.map_cons,List.map_cons,e3]
    exact List.sublist_append_right _ _
  rw[dir_map]
  rw[dir_map] at key
  by_cases w2:way=2
  ·rw[if_pos w2] at key⊢
   have:=key.reverse
   rwa [List.reverse_reverse] at this
  ·rw[if_neg w2] at key⊢
   exact key
theorem one_of{p p':T5}(h:One p)(k:k3 p'=k3 p)(h1:1≤p'.2.2.2.1∧p'.2.2.2.1≤1000000000000000)(h2:0≤p'.2.2.2.2∧p'.2.2.2.2≤1000000000000000):One p':=by
 unfold k3 at k
 simp only[Prod.mk.injEq] at k
 obtain⟨k1,k2,k4⟩:=k
 obtain⟨a,b,c,_⟩:=h
 exact⟨by rw[k1];exact a,by rw[k2];exact b,by rw[k4];exact c,h1,h2⟩
theorem take_one{way q:Int}{own:List T5}(h1:∀p∈own,One p)(hq:sumQ own≤1000000000000000)(hc:sumC own≤1000000000000000)(ne:0<own.length)(hw:1≤way∧way≤3)(q1:1≤q)(q2:q≤sumQ own):∀p∈takeL way own q,One p:=by
 have h:∀p∈own,Pos p:=fun p hp=>(h1 p hp).2.2.2
 unfold takeL
 by_cases w:way=3
 ·rw[if_pos w]
  unfold meanL
  split
  ·exact fun p hp=>absurd hp List.not_mem_nil
  ·intro p hp
   rw[List.mem_singleton] at hp
   subst hp
   have sp:=sum_pos own h
   have d:=div_le sp.2 (show(0:Int)≤q by omega) q2 (by omega)
   refine one_of (h1 (el5 own 0) (getD_mem ne)) rfl ⟨?_,?_⟩ ⟨?_,?_⟩
   ·show 1≤sumQ own-q;omega
   ·show sumQ own-q≤_;omega
   ·show 0≤sumC own-sumC own*q/sumQ own;omega
   ·show sumC own-sumC own*q/sumQ own≤_;omega
 ·rw[if_neg w]
  unfold leftW
  intro p hp
  have hp:=dir_mem.1 hp
  rcases leftF_shape (dirL way own) q (fun p hp=>h p (dir_mem.1 hp)) with e|⟨A,x,x',r,e1,e2,e3,e4,e5,e6,e7⟩
  ·rw[e] at hp;exact absurd hp List.not_mem_nil
  ·rw[e2] at hp
   have mx:x∈own:=dir_mem.1 (by rw[e1];simp)
   rcases List.mem_cons.1 hp with rfl|hp
   ·have:=h1 x mx
    have:=this.2.2.2
    exact one_of (h1 x mx) e3 (by omega) (by omega)
   ·exact h1 p (dir_mem.1 (by rw[e1];simp[hp]))
theorem take_fits{ps:List T5}{a i way q:Int}(h:Right ps)(hw:1≤way∧way≤3)(q1:1≤q)(q2:q≤sumQ (ownL ps a i)):Fits ps (takeL way (ownL ps a i) q) a i:=by
 obtain⟨hp,s1,s2⟩:=own_pos h a i
 have on0:0<(ownL ps a i).length:=by
  generalize ownL ps a i=own at q2
  cases own with
  |nil=>simp[sumQ] at q2;omega
  |cons x r=>simp
 have tk:=takeL_key (way:=way) (q:=q) (own:=ownL ps a i) (a:=a) (i:=i) (fun p hp=>key_own hp) on0
 have ts:=take_sums hp hw q1 q2
 have tb:=takeC_bd (way:=way) hp q1 q2
 refine⟨tk.1,take_one (fun p hp=>right_one h p (List.mem_filter.1 hp).1) s1 s2 on0 hw q1 q2,?_,tk.2,by omega,by omega⟩
 rw[asc_k3]
 exact((asc_k3 _).1 (own_asc h.asc a i).1).sublist (take_subl hp on0)
end LotMore
namespace PostMore
open Bals
def sumK:List T3→Int→Int→Int
 |[],_,_=>0
 |p::r,a,i=>(if p.1=a∧p.2.1=i then p.2.2 else 0)+sumK r a i
theorem sumK_append(a i:Int):∀(ps qs:List T3),sumK (ps++qs) a i=sumK ps a i+sumK qs a i
 |[],qs=>by simp[sumK]
 |p::r,qs=>by
  have:=sumK_append a i r qs
  simp only[List.cons_append,sumK,this]
  omega
theorem sumK_next{ps:List T3}{k:Nat}(h:k<ps.length)(a i:Int):sumK (ps.take (k+1)) a i=sumK (ps.take k) a i+(if(el3 ps k).1=a∧(el3 ps k).2.1=i then(el3 ps k).2.2 else 0):=by
 rw[take_next h,sumK_append]
 simp[sumK]
theorem sumK_bound{ps:List T3}(a i:Int)(h:∀j,j<ps.length→Amt (el3 ps j).2.2):∀k,k≤ps.length→-(1000000000000000*(k:Int))≤sumK (ps.take k) a i∧sumK (ps.take k) a i≤1000000000000000*(k:Int)
 |0,_=>by simp[sumK]
 |k+1,hk=>by
  have ih:=sumK_bound a i h k (by omega)
  have am:=h k (by omega)
  rw[sumK_next (by omega)]
  unfold Amt at am
  split<;>omega
theorem posts_sum:∀(ls:List T3) (f f':Int→Int→Int),posts f ls=some f'→∀a i,f' a i=f a i+sumK ls a i
 |[],f,f',h,a,i=>by
  cases h
  simp[sumK]
 |l::r,f,f',h,a,i=>by
  unfold posts at h
  split at h
  ·have ih:=posts_sum r _ f' h a i
   rw[ih]
   simp only[sumK]
   by_cases e:a=l.1∧i=l.2.1
   ·obtain⟨rfl,rfl⟩:=e
    rw[upd_same,if_pos ⟨rfl,rfl⟩]
    omega
   ·rw[upd_other _ _ _ _ _ _ e,if_neg (fun q=>e ⟨q.1.symm,q.2.symm⟩)]
    omega
  ·cases h
theorem val_none:∀(ps:List T3) (a i:Int),(∀p∈ps,¬(p.1=a∧p.2.1=i))→val ps a i=0
 |[],_,_,_=>rfl
 |p::r,a,i,h=>by
  unfold val
  rw[if_neg (h p List.mem_cons_self)]
  exact val_none r a i (fun q hq=>h q (List.mem_cons_of_mem _ hq))
theorem sum_true(x:T3)(j:Int):∀(ps:List T3),ps.Pairwise Bef→sumI (putL x ps true) j=sumI ps j-(if x.2.1=j then val ps x.1 x.2.1 else 0)
 |[],_=>by simp[putL,sumI,val]
 |y::r,h=>by
  obtain⟨h1,h2⟩:=List.pairwise_cons.1 h
  have ih:=sum_true x j r h2
  by_cases c:y.1≠x.1∨y.2.1≠x.2.1
  ·have e:putL x (y::r) true=y::putL x r true:=by simp[putL,c]
   have v:val (y::r) x.1 x.2.1=val r x.1 x.2.1:=by
    rw[val,if_neg (by omega)]
   rw[e,v]
   simp only[sumI,ih]
   omega
  ·have e:putL x (y::r) true=putL x r true:=by simp[putL,c]
   have k1:y.1=x.1:=by omega
   have k2:y.2.1=x.2.1:=by omega
   have v:val (y::r) x.1 x.2.1=y.2.2:=by rw[val,if_pos ⟨k1,k2⟩]
   have z:val r x.1 x.2.1=0:=val_none r _ _ (fun q hq e=>by have:=h1 q hq;unfold Bef at this;omega)
   rw[e,ih,z,v]
   simp only[sumI]
   rw[k2]
   split<;>omega
theorem sum_false(x:T3)(j:Int):∀(ps:List T3),ps.Pairwise Bef→sumI (putL x ps false) j=sumI ps j+(if x.2.1=j then x.2.2-val ps x.1 x.2.1 else 0)
 |[],_=>by simp[putL,sumI,val]
 |y::r,h=>by
  obtain⟨h1,h2⟩:=List.pairwise_cons.1 h
  by_cases b:Bef y x
  ·have ih:=sum_false x j r h2
   have b':=b
   unfold Bef at b'
   have c:y.1≠x.1∨y.2.1≠x.2.1:=by omega
   have e:putL x (y::r) false=y::putL x r false:=by simp[putL,b',c]
   have v:val (y::r) x.1 x.2.1=val r x.1 x.2.1:=by rw[val,if_neg (by omega)]
   rw[e,v]
   simp only[sumI,ih]
   omega
  ·have b':=b
   unfold Bef at b'
   have e:putL x (y::r) false=x::putL x (y::r) true:=by simp[putL,b']
   have t:=sum_true x j (y::r) h
   rw[e]
   simp only[sumI] at t⊢
   rw[t]
   split<;>omega
theorem put_sum(x:T3)(ps:List T3)(j:Int)(h:Bals.Good ps):∃qs,ListOf (upd (val ps) x.1 x.2.1 x.2.2) qs∧sumI qs j=sumI ps j+(if x.2.1=j then x.2.2-val ps x.1 x.2.1 else 0):=by
 by_cases z:x.2.2=0
 ·refine⟨putL x ps true,put_val x ps true h ⟨fun _=>z,fun _=>rfl⟩,?_⟩
  rw[sum_true x j ps h.1,z]
  split<;>omega
 ·exact⟨putL x ps false,put_val x ps false h ⟨fun e=>Bool.noConfusion e,fun e=>absurd e z⟩,sum_false x j ps h.1⟩
theorem posts_sumI(j:Int):∀(ls ps qs:List T3) (f':Int→Int→Int),Bals.Good ps→posts (val ps) ls=some f'→ListOf f' qs→sumI qs j=sumI ps j+sumI ls j
 |[],ps,qs,f',h,e,l=>by
  cases e
  have:qs=ps:=l.1.ext h l.2
  rw[this]
  simp[sumI]
 |l::r,ps,qs,f',h,e,lo=>by
  unfold posts at e
  split at e
  ·obtain⟨us,hu,hs⟩:=put_sum (l.1,l.2.1,val ps l.1 l.2.1+l.2.2) ps j h
   have ev:val us=upd (val ps) l.1 l.2.1 (val ps l.1 l.2.1+l.2.2):=funext fun a=>funext fun i=>hu.2 a i
   rw[←ev] at e
   have ih:=posts_sumI j r us qs f' hu.1 e lo
   rw[ih,hs]
   simp only[sumI]
   split<;>omega
  ·cases e
section
variable {ps ls qs rs:List T3} {xs:List Int} {c:Int}
end
end PostMore
namespace Keep
open Bks Trd
open Bals (T3 el3 val sumI)
open Tup5 (T5 el5)
open Tup8 (T8 el8)
open Lots (qtyOf NoOk mergeL ownL restL One)
open Takes (sumQ takeL takeC)
open PostMore (sumK)
theorem tright_iff(ps:List T8):TRight ps↔ps.length≤30∧(∀p∈ps,TOne p)∧ps.Pairwise (fun p q=>p.1<q.1):=by
 constructor
 ·intro h
  refine⟨h.1,fun p hp=>?_,?_⟩
  ·obtain⟨i,hi,rfl⟩:=Tup8.mem_getD hp
   exact(h.2 i hi).1
  ·rw[List.pairwise_iff_getElem]
   intro i j hi hj hij
   have:=asc h j i hij hj
   simpa[el8,List.getD,hi,hj] using this
 ·rintro⟨hl,h1,h2⟩
  refine⟨hl,fun i hi=>⟨h1 _ (Tup8.getD_mem hi),fun i0=>?_⟩⟩
  rw[List.pairwise_iff_getElem] at h2
  have:=h2 (i-1) i (by omega) hi (by omega)
  have hi':i-1<ps.length:=by omega
  simpa[el8,List.getD,hi,hi'] using this
theorem tfit_iff(b:Bk):TradesFit b↔∀p∈b.ts,TradeFit b p:=by
 constructor
 ·intro h p hp
  obtain⟨i,hi,rfl⟩:=Tup8.mem_getD hp
  exact h i hi
 ·exact fun h k hk=>h _ (Tup8.getD_mem hk)
theorem state_get(ps:List T8)(k:Nat)(s:Int)(i:Nat)(h:i<(setState ps k s).length)(h':i<ps.length):(setState ps k s)[i]=if k=i then inState ps[i] s else ps[i]:=List.getElem_modify (fun p=>inState p s) k ps i h
theorem state_mem{ps:List T8}{k:Nat}{s:Int}{p:T8}(h:p∈setState ps k s):p∈ps∨∃q∈ps,p=inState q s:=by
 obtain⟨i,hi,rfl⟩:=List.getElem_of_mem h
 have hi':i<ps.length:=by rw[set_len] at hi;exact hi
 rw[state_get ps k s i hi hi']
 split
 ·exact .inr ⟨ps[i],List.getElem_mem hi',rfl⟩
 ·exact .inl (List.getElem_mem hi')
theorem state_no(ps:List T8)(k:Nat)(s:Int):(setState ps k s).map (·.1)=ps.map (·.1):=by
 apply List.ext_getElem
 ·simp[set_len]
 ·intro i h1 h2
  simp only[List.getElem_map]
  rw[state_get ps k s i (by simpa using h1) (by simpa using h2)]
  split<;>rfl
theorem asc_no(ps:List T8):ps.Pairwise (fun p q=>p.1<q.1)↔(ps.map (·.1)).Pairwise (· < ·):=by
 rw[List.pairwise_map]
theorem ok_state{b:Bk}(h:Ok b)(k:Nat){s:Int}(s1:1≤s)(s2:s≤3):Ok {b with ts:=setState b.ts k s}:=by
 obtain⟨⟨la,li,lb,ll,lt,lo⟩,hb,hl,ht⟩:=h
 obtain⟨t1,t2,t3⟩:=(tright_iff _).1 lt
 refine⟨⟨la,li,lb,ll,(tright_iff _).2 ⟨?_,fun p hp=>?_,?_⟩,lo⟩,hb,hl,(tfit_iff _).2 fun p hp=>?_⟩
 ·rw[set_len];exact t1
 ·rcases state_mem hp with hp|⟨q,hq,rfl⟩
  ·exact t2 p hp
  ·obtain⟨a,b,c,d,e,f,g,i,j⟩:=t2 q hq
   exact⟨a,b,c,d,e,f,g,i,s1,s2⟩
 ·rw[asc_no,state_no,←asc_no];exact t3
 ·rcases state_mem hp with hp|⟨q,hq,rfl⟩
  ·exact(tfit_iff b).1 ht p hp
  ·exact(tfit_iff b).1 ht q hq
theorem short_mem:∀{ps:List (Int×Int)} {a:Int},a∈shortL ps→∃p∈ps,p.1=a∧p.2≠1
 |[],a,h=>by simp[shortL] at h
 |p::r,a,h=>by
  unfold shortL at h
  rcases List.mem_append.1 h with h|h
  ·split at h
   ·simp at h
   ·rename_i e
    exact⟨p,by simp,(List.mem_singleton.1 h).symm,e⟩
  ·obtain⟨q,hq,e⟩:=short_mem h
   exact⟨q,by simp[hq],e⟩
theorem holder_not{ps:List (Int×Int)}(h:Chart.Right 20 4 ps){a:Int}(k:kindOf ps a=1):a∉shortL ps:=by
 intro e
 obtain⟨p,hp,rfl,e2⟩:=short_mem e
 rw[kind_of_mem (right_one h) p hp] at k
 exact e2 k
theorem sumK_none:∀{ls:List T3} {a i:Int},(∀l∈ls,¬(l.1=a∧l.2.1=i))→sumK ls a i=0
 |[],_,_,_=>rfl
 |p::r,a,i,h=>by
  unfold sumK
  rw[if_neg (h p (by simp)),sumK_none (fun l hl=>h l (by simp[hl]))]
  rfl
structure Posted(b:Bk)(ls qs:List T3):Prop where
 right:Bals.Right qs
 fit:BalsFit {b with bs:=qs}
 val:∀a i,val qs a i=val b.bs a i+sumK ls a i
theorem posted{b b1:Bk}{ls:List T3}(h:Ok b)(he:Bals.Even ls)(hk:∀l∈ls,kindOf b.ac l.1≠0∧kindOf b.ic l.2.1≠0)(p:IsPosted b ls b1 0):∃qs,b1={b with bs:=qs}∧Posted b ls qs:=by
 obtain⟨qs,pc,hp,⟨rfl,rfl,_⟩|⟨_,_,e⟩|⟨_,_,e⟩|⟨_,_,e⟩⟩:=p
 rotate_left
 ·omega
 ·omega
 ·omega
 obtain⟨_,_,e⟩|⟨_,_,_,e⟩|⟨_,_,_,_,e⟩|⟨f,_,_,_,_,_,e⟩|⟨f,us,_,_,_,_,_,_,_,e⟩|⟨f,hr,hev,hf,hlk,hlo,hln,_⟩:=hp
 ·omega
 ·omega
 ·omega
 ·omega
 ·omega
 have fine:=Bals.posts_fine ls _ f (Bals.fine_of hr.1) (fun l hl=>by
  obtain⟨i,hi,rfl⟩:=Bals.mem_getD hl
  exact⟨(hr.2.1.2 i hi).1,(hr.2.1.2 i hi).2.1⟩) hf
 have right:=hlo.right fine hln
 have hv:∀a i,val qs a i=val b.bs a i+sumK ls a i:=fun a i=>by rw[hlo.2 a i];exact PostMore.posts_sum ls _ f hf a i
 refine⟨qs,rfl,right,⟨fun k hk'=>?_,fun i=>?_⟩,hv⟩
 ·have hm:=Bals.getD_mem hk'
  obtain⟨n0,hval⟩:=(right.good.mem _).1 hm
  obtain⟨a,i,x,hp⟩:∃a i x,el3 qs k=(a,i,x):=⟨_,_,_,rfl⟩
  show BalFit {b with bs:=qs} (el3 qs k)
  rw[hp] at n0 hval⊢
  have n0:x≠0:=n0
  have hval:val qs a i=x:=hval
  have old:val b.bs a i≠0→kindOf b.ac a≠0∧kindOf b.ic i≠0∧¬(kindOf b.ac a=1∧val b.bs a i<0):=fun e=>by
   obtain⟨j,hj,ej⟩:=Bals.mem_getD (Bals.val_mem b.bs a i e)
   have:=h.2.1.1 j hj
   rw[ej] at this
   exact this
  by_cases leg:∃l∈ls,l.1=a∧l.2.1=i
  ·obtain⟨l,hl,rfl,rfl⟩:=leg
   refine⟨(hk l hl).1,(hk l hl).2,fun e=>hlk ?_⟩
   obtain⟨j,hj,ej⟩:=Bals.mem_getD hl
   refine⟨j,hj,?_,?_⟩
   ·rw[ej,←hlo.2,hval];exact e.2
   ·rw[ej];exact holder_not h.1.1 e.1
  ·have z:sumK ls a i=0:=sumK_none (fun l hl e=>leg ⟨l,hl,e⟩)
   have e:=hv a i
   rw[z,hval] at e
   have e':val b.bs a i=x:=by omega
   have o:=old (by omega)
   rw[e'] at o
   exact o
 ·show sumI qs i=0
  rw[PostMore.posts_sumI i ls b.bs qs f hr.1.good hf hlo,h.2.1.2 i,he i]
  rfl
theorem merge_qty(a i:Int):∀(n:Nat) (A B:List T5),A.length+B.length≤n→qtyOf (mergeL n A B) a i=qtyOf A a i+qtyOf B a i
 |0,[],[],_=>rfl
 |0,x::A,_,h=>by simp at h
 |0,[],y::B,h=>by simp at h
 |n+1,[],B,h=>by rw[Takes.merge_right _ _ (by simpa using h)];simp[qtyOf]
 |n+1,x::A,[],h=>by rw[Takes.merge_left _ _ (by simpa using h)];simp[qtyOf]
 |n+1,x::A,y::B,h=>by
  by_cases e:Lots.Bef x y
  ·rw[Takes.merge_yes e]
   show(if x.1=a∧x.2.1=i then x.2.2.2.1 else 0)+qtyOf (mergeL n A (y::B)) a i=((if x.1=a∧x.2.1=i then x.2.2.2.1 else 0)+qtyOf A a i)+qtyOf (y::B) a i
   rw[merge_qty a i n A (y::B) (by simp at h⊢;omega)]
   omega
  ·rw[Takes.merge_no e]
   show(if y.1=a∧y.2.1=i then y.2.2.2.1 else 0)+qtyOf (mergeL n (x::A) B) a i=qtyOf (x::A) a i+((if y.1=a∧y.2.1=i then y.2.2.2.1 else 0)+qtyOf B a i)
   rw[merge_qty a i n (x::A) B (by simp at h⊢;omega)]
   omega
structure Taken(b:Bk)(a i q:Int)(R:List T5):Prop where
 right:Lots.Right R
 qty:∀c j,qtyOf R c j=qtyOf b.ls c j-(if c=a∧j=i then q else 0)
 key:∀p∈R,∃l∈b.ls,p.1=l.1∧p.2.1=l.2.1∧p.2.2.1=l.2.2.1
theorem taken{b:Bk}{a i q way:Int}(h:CanTake b a i q way):Taken b a i q (takenL b a i q way):=by
 obtain⟨hr,hq,hw,hs⟩:=h
 have q2:q≤sumQ (ownL b.ls a i):=by omega
 have fit:=LotMore.take_fits hr hw hq.1 q2
 have pos:=(Takes.own_pos hr a i).1
 have hn:(restL b.ls a i).length+(takeL way (ownL b.ls a i) q).length≤(restL b.ls a i).length+(takeL way (ownL b.ls a i) q).length:=Nat.le_refl _
 have ne:0<(ownL b.ls a i).length:=by
  rcases Nat.eq_zero_or_pos (ownL b.ls a i).length with e|e
  ·rw[List.eq_nil_of_length_eq_zero e] at q2
   simp[sumQ] at q2
   omega
  ·exact e
 refine⟨fit.right hr hn,fun c j=>?_,fun p hp=>?_⟩
 ·by_cases e:c=a∧j=i
  ·obtain⟨rfl,rfl⟩:=e
   rw[if_pos ⟨rfl,rfl⟩,←(Takes.own_sums c j (takenL b c j q way)).1]
   have:=fit.own hn
   unfold takenL
   rw[this,(LotMore.take_sums pos hw hq.1 q2).1,(Takes.own_sums c j b.ls).1]
  ·rw[if_neg e,←(Takes.own_sums c j (takenL b a i q way)).1]
   have:=fit.other hn e
   unfold takenL
   rw[this,(Takes.own_sums c j b.ls).1]
   omega
 ·rcases(LotMore.merge_mem _ _ _ hn p).1 hp with hp|hp
  ·exact⟨p,(List.mem_filter.1 hp).1,rfl,rfl,rfl⟩
  ·have:=(LotMore.take_subl (way:=way) (q:=q) pos ne).subset (List.mem_map_of_mem (f:=LotMore.k3) hp)
   obtain⟨l,hl,e⟩:=List.mem_map.1 this
   refine⟨l,(List.mem_filter.1 hl).1,?_⟩
   unfold LotMore.k3 at e
   simp only[Prod.mk.injEq] at e
   exact⟨e.1.symm,e.2.1.symm,e.2.2.symm⟩
theorem lot_iff(b:Bk)(P:T5→Prop):(∀k,k<b.ls.length→P (el5 b.ls k))↔∀p∈b.ls,P p:=by
 constructor
 ·intro h p hp
  obtain⟨k,hk1,hk2,rfl⟩:=Lots.mem_take (ps:=b.ls) (k:=b.ls.length) (p:=p) (by rw[List.take_length];exact hp)
  exact h k hk2
 ·exact fun h k hk=>h _ (by simp[el5,List.getD,hk])
theorem open_mem{b:Bk}{a i q cost:Int}{p:T5}(hp:p∈mergeL (b.ls.length+1) b.ls [opened b a i q cost]):p∈b.ls∨p=opened b a i q cost:=by
 rcases(LotMore.merge_mem _ _ _ (by simp) p).1 hp with h|h
 ·exact .inl h
 ·exact .inr (List.mem_singleton.1 h)
theorem open_qty(b:Bk)(a i q cost c j:Int):qtyOf (mergeL (b.ls.length+1) b.ls [opened b a i q cost]) c j=qtyOf b.ls c j+(if c=a∧j=i then q else 0):=by
 rw[merge_qty c j _ _ _ (by simp)]
 show _+((if a=c∧i=j then q else 0)+0)=_
 by_cases e:c=a∧j=i
 ·rw[if_pos e,if_pos ⟨e.1.symm,e.2.symm⟩];omega
 ·rw[if_neg e,if_neg (fun k=>e ⟨k.1.symm,k.2.symm⟩)];omega
theorem ok_carry{b b2 b3:Bk}{ls qs:List T3}{x y i q way k2 pr:Int}(h:Ok b)(P:Posted b ls qs)(hy:kindOf b.ac y=1)(hi:kindOf b.ic i=2)(hs:∀a j,kindOf b.ac a=1→kindOf b.ic j=2→sumK ls a j=(if a=y∧j=i then q else 0) -(if a=x∧j=i then q else 0))(htk:IsTake {b with bs:=qs} x i q way b2 k2 0)(ho:IsOpen b2 y i q pr b3 0):Ok b3:=by
 obtain⟨⟨la,li,lb,ll,lt,lo⟩,hb,hl,ht⟩:=h
 rcases htk with⟨ct,rfl,_,_⟩|⟨_,_,_,e⟩
 rotate_left
 ·omega
 have T:=taken ct
 rcases ho with⟨⟨c1,c2,c3,c4⟩,rfl,_⟩|⟨_,_,e⟩
 rotate_left
 ·omega
 generalize takenL {b with bs:=qs} x i q way=R at *
 have c1:b.lot≠1000000000:=c1
 refine⟨⟨la,li,P.right,c4,lt,?_⟩,P.fit,⟨(lot_iff _ _).2 fun p hp=>?_,fun a j ka kj=>?_⟩,ht⟩
 ·show 0≤b.lot+1∧b.lot+1≤1000000000
  omega
 ·rcases open_mem hp with hp|rfl
  ·obtain⟨l,hll,e1,e2,e3⟩:=T.key p hp
   obtain⟨f1,f2,f3⟩:=(lot_iff b _).1 hl.1 l hll
   refine⟨?_,?_,?_⟩
   ·rw[e1];exact f1
   ·rw[e2];exact f2
   ·show p.2.2.1≤b.lot+1
    omega
  ·exact⟨hy,hi,Int.le_refl _⟩
 ·have e1:=open_qty {b with bs:=qs,ls:=R} y i q pr a j
  have e2:qtyOf R a j=qtyOf b.ls a j-(if a=x∧j=i then q else 0):=T.qty a j
  show qtyOf (mergeL (R.length+1) R [opened {b with bs:=qs,ls:=R} y i q pr]) a j=val qs a j
  rw[e1]
  show qtyOf R a j+_=_
  rw[e2,P.val,hs a j ka kj,hl.2 a j ka kj]
  omega
theorem sumK_pair(a c i q b j:Int):sumK (pairL a c i q) b j=(if b=c∧j=i then q else 0) -(if b=a∧j=i then q else 0):=by
 show(if a=b∧i=j then-q else 0)+((if c=b∧i=j then q else 0)+0)=_
 by_cases e1:b=a∧j=i<;>by_cases e2:b=c∧j=i
 ·rw[if_pos e1,if_pos e2,if_pos ⟨e1.1.symm,e1.2.symm⟩,if_pos ⟨e2.1.symm,e2.2.symm⟩];omega
 ·rw[if_pos e1,if_neg e2,if_pos ⟨e1.1.symm,e1.2.symm⟩,if_neg (fun k=>e2 ⟨k.1.symm,k.2.symm⟩)];omega
 ·rw[if_neg e1,if_pos e2,if_neg (fun k=>e1 ⟨k.1.symm,k.2.symm⟩),if_pos ⟨e2.1.symm,e2.2.symm⟩];omega
 ·rw[if_neg e1,if_neg e2,if_neg (fun k=>e1 ⟨k.1.symm,k.2.symm⟩),if_neg (fun k=>e2 ⟨k.1.symm,k.2.symm⟩)];omega
theorem pair_mem{a c i q:Int}{l:T3}(h:l∈pairL a c i q):(l.1=a∨l.1=c)∧l.2.1=i:=by
 simp only[pairL,List.mem_cons,List.not_mem_nil,or_false] at h
 rcases h with rfl|rfl
 ·exact⟨.inl rfl,rfl⟩
 ·exact⟨.inr rfl,rfl⟩
theorem ok_settle{b b':Bk}{no way g c:Int}(h:Ok b)(k:IsSettle b no way b' g c):Ok b':=by
 rcases k with⟨_,rfl,_⟩|⟨n,hn,⟨_,rfl,_⟩|⟨_,b1,c1,hp,⟨_,rfl,_⟩|⟨rfl,b2,k2,c2,ht,⟨_,rfl,_⟩|⟨rfl,b3,c3,ho,⟨_,rfl,_⟩|⟨rfl,rfl,_⟩⟩⟩⟩⟩
 ·exact h
 ·exact h
 ·exact h
 ·exact h
 ·exact h
 ·obtain⟨f1,f2,f3,f4⟩:=h.2.2.2 n hn.1
  generalize el8 b.ts n=t at *
  obtain⟨t0,x,y,p,q,m,r,s⟩:=t
  have f1:kindOf b.ac x=1:=f1
  have f2:kindOf b.ac y=1:=f2
  have f3:kindOf b.ic p=2:=f3
  have f4:kindOf b.ic m=1:=f4
  obtain⟨qs,rfl,P⟩:=posted h (SCarryP.legs_even _) (fun l hl=>by
   rcases List.mem_append.1 hl with hl|hl
   ·obtain⟨e1|e1,e2⟩:=pair_mem hl
    ·rw[e1,e2];show kindOf b.ac x≠0∧kindOf b.ic m≠0;omega
    ·rw[e1,e2];show kindOf b.ac y≠0∧kindOf b.ic m≠0;omega
   ·obtain⟨e1|e1,e2⟩:=pair_mem hl
    ·rw[e1,e2];show kindOf b.ac y≠0∧kindOf b.ic p≠0;omega
    ·rw[e1,e2];show kindOf b.ac x≠0∧kindOf b.ic p≠0;omega) hp
  refine ok_state (ok_carry h P f1 f3 (fun a j ka kj=>?_) ht ho) n (by omega) (by omega)
  show sumK (pairL x y m r++pairL y x p q) a j=(if a=x∧j=p then q else 0) -(if a=y∧j=p then q else 0)
  rw[PostMore.sumK_append,sumK_pair,sumK_pair]
  have nj:¬j=m:=fun e=>by rw[e,f4] at kj;omega
  rw[if_neg (fun e=>nj e.2),if_neg (fun e=>nj e.2)]
  omega
end Keep
namespace Net
open Bks Trd Keep
open Bals (T3 el3 val sumI ListOf Good Amt upd putL)
open Tup8 (T8 el8)
open Lots (NoOk)
open PostMore (sumK)
def tradeNo:List T8→Int→T8
 |[],_=>(0,0,0,0,0,0,0,0)
 |p::r,no=>if p.1=no then p else tradeNo r no
theorem trade_at:∀{ts:List T8} {no:Int} {k:Nat},IsAt ts no k→tradeNo ts no=el8 ts k
 |[],no,k,h=>absurd h.1 (by simp)
 |p::r,no,0,h=>by
  have e:p.1=no:=h.2.1
  unfold tradeNo
  rw[if_pos e];rfl
 |p::r,no,k+1,h=>by
  have n:p.1≠no:=h.2.2 0 (by omega)
  unfold tradeNo
  rw[if_neg n]
  exact trade_at (ts:=r) (no:=no) (k:=k) ⟨by simpa using h.1,h.2.1,fun j hj=>h.2.2 (j+1) (by omega)⟩
def legsOf(ts:List T8):List Int→List T3
 |[]=>[]
 |no::r=>legsT (tradeNo ts no)++legsOf ts r
theorem legs_append(ts:List T8):∀a b:List Int,legsOf ts (a++b)=legsOf ts a++legsOf ts b
 |[],b=>rfl
 |x::a,b=>by simp[legsOf,legs_append ts a b]
theorem legs_len(ts:List T8):∀a:List Int,(legsOf ts a).length=4*a.length
 |[]=>rfl
 |x::a=>by simp[legsOf,legs_len ts a,legsT,pairL];omega
def AllOpen(ts:List T8)(nos:List Int):Prop:=∀no∈nos,∃k,IsAt ts no k∧(el8 ts k).2.2.2.2.2.2.2=1
def CanNet(b:Bk)(nos:List Int):Prop:=Ok b∧nos.length≤30∧AllOpen b.ts nos∧nos.Nodup∧∀a i,Amt (sumK (legsOf b.ts nos) a i)
def IsNetL(b:Bk)(nos:List Int)(qs:List T3)(ok:Bool):Prop:=
 (CanNet b nos∧ListOf (sumK (legsOf b.ts nos)) qs∧ok=true)∨(¬CanNet b nos∧qs=[]∧ok=false)
theorem IsNetL.same{b:Bk}{nos:List Int}{ps qs:List T3}{s t:Bool}(h:IsNetL b nos ps s)(k:IsNetL b nos qs t):ps=qs∧s=t:=by
 rcases h with⟨h,h1,rfl⟩|⟨h,rfl,rfl⟩<;>rcases k with⟨k,k1,rfl⟩|⟨k,rfl,rfl⟩
 ·exact⟨h1.same k1,rfl⟩
 ·exact absurd h k
 ·exact absurd k h
 ·exact⟨rfl,rfl⟩
theorem sumK_one(L:List T3)(l:T3):sumK (L++[l])=upd (sumK L) l.1 l.2.1 (sumK L l.1 l.2.1+l.2.2):=by
 funext a i
 rw[PostMore.sumK_append]
 show sumK L a i+((if l.1=a∧l.2.1=i then l.2.2 else 0)+0)=_
 unfold upd
 by_cases e:a=l.1∧i=l.2.1
 ·rw[if_pos e,if_pos ⟨e.1.symm,e.2.symm⟩,e.1,e.2];omega
 ·rw[if_neg e,if_neg (fun k=>e ⟨k.1.symm,k.2.symm⟩)];omega
theorem list_put{f:Int→Int→Int}{ps:List T3}(h:ListOf f ps)(a i x:Int)(put:Bool)(hp:(x==0)=put):ListOf (upd f a i x) (putL (a,i,x) ps put):=by
 obtain⟨g,v⟩:=Bals.put_val (a,i,x) ps put h.1 (by subst hp;simp)
 refine⟨g,fun b j=>?_⟩
 rw[v b j]
 have e:val ps=f:=by funext c d;exact h.2 c d
 rw[e]
theorem list_nil(f:Int→Int→Int)(h:∀a i,f a i=0):ListOf f []:=⟨⟨List.Pairwise.nil,fun p hp=>by simp at hp⟩,fun a i=>(h a i).symm⟩
theorem list_leg{L:List T3}{ps:List T3}(h:ListOf (sumK L) ps)(l:T3)(put:Bool)(hp:(val ps l.1 l.2.1+l.2.2==0)=put):ListOf (sumK (L++[l])) (putL (l.1,l.2.1,val ps l.1 l.2.1+l.2.2) ps put):=by
 rw[sumK_one]
 have:=list_put h l.1 l.2.1 (val ps l.1 l.2.1+l.2.2) put hp
 rw[h.2] at this⊢
 exact this
theorem list_amt{f:Int→Int→Int}{ps:List T3}(h:ListOf f ps):(∀p∈ps,Amt p.2.2)↔∀a i,Amt (f a i):=by
 constructor
 ·intro k a i
  by_cases e:f a i=0
  ·rw[e];unfold Amt;omega
  ·have m:=Bals.val_mem ps a i (by rw[h.2];exact e)
   have:=k _ m
   rw[h.2] at this
   exact this
 ·intro k p hp
  have:=(h.1.mem p).1 hp
  rw[←this.2,h.2]
  exact k _ _
theorem legsT_amt{t:T8}(h:TOne t):∀l∈legsT t,Amt l.2.2:=by
 intro l hl
 obtain⟨i,hi,rfl⟩:=Bals.mem_getD hl
 exact((SCarryP.legs_formed h).2 i hi).2.2
theorem legsOf_amt{ts:List T8}(ht:TRight ts):∀{nos:List Int},AllOpen ts nos→∀l∈legsOf ts nos,Amt l.2.2
 |[],_,l,hl=>by simp[legsOf] at hl
 |no::r,h,l,hl=>by
  unfold legsOf at hl
  rcases List.mem_append.1 hl with hl|hl
  ·obtain⟨k,hk,_⟩:=h no (by simp)
   rw[trade_at hk] at hl
   exact legsT_amt (ht.2 k hk.1).1 l hl
  ·exact legsOf_amt ht (fun x hx=>h x (by simp[hx])) l hl
theorem sumK_near{ps:List T3}(h:∀l∈ps,Amt l.2.2)(hl:ps.length≤200)(a i:Int): -200000000000000000≤sumK ps a i∧sumK ps a i≤200000000000000000:=by
 have:=PostMore.sumK_bound a i (fun j hj=>h _ (Bals.getD_mem hj)) ps.length (Nat.le_refl _)
 rw[List.take_length] at this
 omega
def Steps(way:Int):List Int→Bk→Int→Bk→Int→Int→Prop
 |[],b,acc,b',g,c=>b'=b∧g=acc∧c=0
 |no::r,b,acc,b',g,c=>∃b1 g1 c1,IsSettle b no way b1 g1 c1∧((c1≠0∧b'=b∧g=0∧c=c1)∨(c1=0∧Steps way r b1 (acc+g1) b' g c))
theorem Steps.same{way:Int}:∀{nos:List Int} {b:Bk} {acc:Int} {b1 b2:Bk} {g1 g2 c1 c2:Int},Steps way nos b acc b1 g1 c1→Steps way nos b acc b2 g2 c2→b1=b2∧g1=g2∧c1=c2
 |[],b,acc,b1,b2,g1,g2,c1,c2,h,k=>by
  obtain⟨rfl,rfl,rfl⟩:=h
  obtain⟨rfl,rfl,rfl⟩:=k
  exact⟨rfl,rfl,rfl⟩
 |no::r,b,acc,b1,b2,g1,g2,c1,c2,h,k=>by
  obtain⟨d1,e1,f1,hs,h⟩:=h
  obtain⟨d2,e2,f2,ks,k⟩:=k
  obtain⟨rfl,rfl,rfl⟩:=hs.same ks
  rcases h with⟨h1,rfl,rfl,rfl⟩|⟨h1,h⟩<;>rcases k with⟨k1,rfl,rfl,rfl⟩|⟨k1,k⟩
  ·exact⟨rfl,rfl,rfl⟩
  ·exact absurd k1 h1
  ·exact absurd h1 k1
  ·exact Steps.same h k
def IsNet(b:Bk)(lo hi way:Int)(b':Bk)(legs:List T3)(gains c:Int):Prop:=
 (openT lo hi b.ts=[]∧b'=b∧legs=[]∧gains=0∧c=3)∨
 (openT lo hi b.ts≠[]∧∃b2 g c2,Steps way (openT lo hi b.ts) b 0 b2 g c2∧((c2≠0∧b'=b∧legs=[]∧gains=0∧c=c2)∨
  (c2=0∧∃qs ok,IsNetL b (openT lo hi b.ts) qs ok∧((¬(ok=true∧Amt g)∧b'=b∧legs=[]∧gains=0∧c=8)∨((ok=true∧Amt g)∧b'=b2∧legs=qs∧gains=g∧c=0)))))
theorem IsNet.same{b:Bk}{lo hi way:Int}{b1 b2:Bk}{l1 l2:List T3}{g1 g2 c1 c2:Int}(h:IsNet b lo hi way b1 l1 g1 c1)(k:IsNet b lo hi way b2 l2 g2 c2):b1=b2∧l1=l2∧g1=g2∧c1=c2:=by
 rcases h with⟨h0,rfl,rfl,rfl,rfl⟩|⟨h0,d1,e1,f1,hs,h⟩<;>rcases k with⟨k0,rfl,rfl,rfl,rfl⟩|⟨k0,d2,e2,f2,ks,k⟩
 ·exact⟨rfl,rfl,rfl,rfl⟩
 ·exact absurd h0 k0
 ·exact absurd k0 h0
 ·obtain⟨rfl,rfl,rfl⟩:=hs.same ks
  rcases h with⟨h1,rfl,rfl,rfl,rfl⟩|⟨h1,q1,o1,hn,h⟩<;>rcases k with⟨k1,rfl,rfl,rfl,rfl⟩|⟨k1,q2,o2,kn,k⟩
  ·exact⟨rfl,rfl,rfl,rfl⟩
  ·exact absurd k1 h1
  ·exact absurd h1 k1
  ·obtain⟨rfl,rfl⟩:=hn.same kn
   rcases h with⟨h2,rfl,rfl,rfl,rfl⟩|⟨h2,rfl,rfl,rfl,rfl⟩<;>rcases k with⟨k2,rfl,rfl,rfl,rfl⟩|⟨k2,rfl,rfl,rfl,rfl⟩
   ·exact⟨rfl,rfl,rfl,rfl⟩
   ·exact absurd k2 h2
   ·exact absurd h2 k2
   ·exact⟨rfl,rfl,rfl,rfl⟩
theorem gain_amt{b b':Bk}{no way g c:Int}(h:Ok b)(k:IsSettle b no way b' g c):Amt g:=by
 rcases k with⟨_,_,rfl,_⟩|⟨n,hn,⟨_,_,rfl,_⟩|⟨_,b1,c1,hp,⟨_,_,rfl,_⟩|⟨rfl,b2,k2,c2,ht,⟨_,_,rfl,_⟩|⟨rfl,b3,c3,ho,⟨_,_,rfl,_⟩|⟨rfl,_,rfl,_⟩⟩⟩⟩⟩
 all_goals try(unfold Amt;omega)
 have pr:=(h.1.2.2.2.2.1.2 n hn.1).1.2.2.2.2.2.2.2.1
 rcases ht with⟨ct,_,e,_⟩|⟨_,_,_,e⟩
 ·have ps:=Takes.own_pos ct.1 (el8 b.ts n).2.2.1 (el8 b.ts n).2.2.2.1
  have q2:(el8 b.ts n).2.2.2.2.1≤Takes.sumQ (Lots.ownL b1.ls (el8 b.ts n).2.2.1 (el8 b.ts n).2.2.2.1):=by have:=ct.2.2.2;omega
  have bd:=LotMore.takeC_bd (way:=way) ps.1 ct.2.1.1 q2
  rw[←e] at bd
  have:=ps.2.2
  rw[IntKind.wrap_i64]
  ·unfold Amt;omega
  all_goals omega
 ·omega
end Net
namespace SNetL
open BMem Bks ILists IBalsFit Ans Trd Net
open Lots (Says says_of NoOk)
open Bals (T3 el3 val ListOf putL Amt)
open Tup8 (T8 el8)
open Triples (Own3 At3 Holds3)
open PostMore (sumK)
theorem at_take{w:World}{g:Nat}{xs:List Int}(h:Ints.At w g xs)(k:Nat):Ints.At w g (xs.take k):=by
 intro i hi
 have h1:i<k:=by simp at hi;omega
 have h2:i<xs.length:=by simp at hi;omega
 rw[Ints.getD_take xs k i h1]
 exact h i h2
theorem take_nos{xs:List Int}{k:Nat}(h:k<xs.length):xs.take (k+1)=xs.take k++[xs.getD k 0]:=by
 rw[List.take_succ_eq_append_getElem h]
 simp[List.getD,h]
theorem open_next{ts:List T8}{xs:List Int}{k:Nat}(h:k<xs.length)(a:AllOpen ts (xs.take k))(o:∃n,IsAt ts (xs.getD k 0) n∧(el8 ts n).2.2.2.2.2.2.2=1):AllOpen ts (xs.take (k+1)):=by
 intro no hn
 rw[take_nos h] at hn
 rcases List.mem_append.1 hn with hn|hn
 ·exact a no hn
 ·rw[List.mem_singleton.1 hn];exact o
theorem nodup_next{xs:List Int}{k:Nat}(h:k<xs.length)(a:(xs.take k).Nodup)(o:xs.getD k 0∉xs.take k):(xs.take (k+1)).Nodup:=by
 rw[take_nos h]
 refine List.nodup_append.2 ⟨a,by simp,?_⟩
 intro x hx y hy e
 rw[List.mem_singleton.1 hy] at e
 subst e
 exact o hx
theorem has_dup{xs:List Int}{k:Nat}(h:k<xs.length)(o:xs.getD k 0∈xs.take k):¬xs.Nodup:=by
 intro n
 have n':(xs.take (k+1)).Nodup:=n.sublist (List.take_sublist _ _)
 rw[take_nos h] at n'
 exact(List.nodup_append.1 n').2.2 _ o _ (by simp) rfl
theorem mem_nos{xs:List Int}{k:Nat}(h:k<xs.length):xs.getD k 0∈xs:=by simp[List.getD,h]
theorem sNetLegs(w:World)(x:Bx)(gN capN:Nat)(nos:List Int)(hr:Rd w x)(hN:nos.length≤1048576)(hc:nos.length≤capN)(hc2:capN≤9223372036854775807)(lN:gN<w.heap.size)(aN:Ints.At w gN nos):
  Calls Tryz.prog 6 #[.agg #[.slice (some ⟨x.ga,0,none⟩) x.b.ac.length x.ca,.slice (some ⟨x.gi,0,none⟩) x.b.ic.length x.ci,.slice (some ⟨x.gb,0,none⟩) x.b.bs.length x.cb,.slice (some ⟨x.gl,0,none⟩) x.b.ls.length x.cl,.slice (some ⟨x.gt,0,none⟩) x.b.ts.length x.ct,.int .i64 x.b.lot],.slice (some ⟨gN,0,none⟩) nos.length capN] w fun e w'=>∃(qs:List T3) (ok:Bool) (g c:Nat),IsNetL x.b nos qs ok∧qs.length≤120∧e= .returned (.tuple #[.slice (some ⟨g,0,none⟩) qs.length c,.bool ok])∧Own3 67 w' w.heap.size g qs.length c qs∧Below w.heap.size w w':=by
 obtain⟨b0,h0⟩:=says_of (Ok x.b)
 have H0:=zh h0
 have nt:=hr.nt
 have S0:=zh ((St.start hr 40).step (one_more (w.alloc (.cells #[.slice (some ⟨x.ga,0,none⟩) x.b.ac.length x.ca,.slice (some ⟨x.gi,0,none⟩) x.b.ic.length x.ci,.slice (some ⟨x.gb,0,none⟩) x.b.bs.length x.cb,.slice (some ⟨x.gl,0,none⟩) x.b.ls.length x.cl,.slice (some ⟨x.gt,0,none⟩) x.b.ts.length x.ct,.int .i64 x.b.lot] 40)) (.cells #[] 67)))
 have N0:=zh (show Own3 67 ((w.alloc (.cells #[.slice (some ⟨x.ga,0,none⟩) x.b.ac.length x.ca,.slice (some ⟨x.gi,0,none⟩) x.b.ic.length x.ci,.slice (some ⟨x.gb,0,none⟩) x.b.bs.length x.cb,.slice (some ⟨x.gl,0,none⟩) x.b.ls.length x.cl,.slice (some ⟨x.gt,0,none⟩) x.b.ts.length x.ct,.int .i64 x.b.lot] 40)).alloc (.cells #[] 67)) w.heap.size (w.heap.size+1) 0 0 [] from by
  have:=Triples.lit30 67 (w.alloc (.cells #[.slice (some ⟨x.ga,0,none⟩) x.b.ac.length x.ca,.slice (some ⟨x.gi,0,none⟩) x.b.ic.length x.ci,.slice (some ⟨x.gb,0,none⟩) x.b.bs.length x.cb,.slice (some ⟨x.gl,0,none⟩) x.b.ls.length x.cl,.slice (some ⟨x.gt,0,none⟩) x.b.ts.length x.ct,.int .i64 x.b.lot] 40)) w.heap.size (by simp)
  simpa using this)
 have A0:=zh (show Ints.At ((w.alloc (.cells #[.slice (some ⟨x.ga,0,none⟩) x.b.ac.length x.ca,.slice (some ⟨x.gi,0,none⟩) x.b.ic.length x.ci,.slice (some ⟨x.gb,0,none⟩) x.b.bs.length x.cb,.slice (some ⟨x.gl,0,none⟩) x.b.ls.length x.cl,.slice (some ⟨x.gt,0,none⟩) x.b.ts.length x.ct,.int .i64 x.b.lot] 40)).alloc (.cells #[] 67)) gN nos from aN.below (((Below.refl w.heap.size w).alloc (Nat.le_refl _) _).alloc (by simp) _) lN)
 clear h0 hr aN
 go_enter Tryz.func6,Tryz.ntmps6
 go_wp2_with fail
 refine(SBooksOk.sBooksOk _ x b0 (zu S0).r (zu H0)).mono ?_
 rintro e w1 ⟨rfl,bb⟩
 have S1:=zh ((zu S0).step bb)
 have N1:=zh ((zu N0).below bb (zu N0).lt.2)
 have A1:=zh ((zu A0).below bb (by simp;omega))
 clear bb S0 N0 A0
 cases b0
 ·have F:=zh (show IsNetL x.b nos [] false from .inr ⟨fun k=>(zu H0).no k.1,rfl,rfl⟩)
  go_wp2
  go_ret2
  exact⟨[],false,w.heap.size+1,0,zu F,by simp,rfl,zu N1,(zu S1).b⟩
 have OK:=zh (zu H0).yes
 clear H0
 by_cases n30:nos.length≤30
 rotate_left
 ·have F:=zh (show IsNetL x.b nos [] false from .inr ⟨fun k=>n30 k.2.1,rfl,rfl⟩)
  have nb:decide ((nos.length:Int)>30)=true:=decide_eq_true (by omega)
  clear n30
  go_wp2
  go_ret2
  exact⟨[],false,w.heap.size+1,0,zu F,by simp,rfl,zu N1,(zu S1).b⟩
 have nb:decide ((nos.length:Int)>30)=false:=decide_eq_false (by omega)
 have S2:=zh ((zu S1).step (one_more w1 (.cells #[] 70)))
 have N2:=zh ((zu N1).alloc (.cells #[] 70))
 have A2:=zh ((zu A1).below (one_more w1 (.cells #[] 70)) (by have:=(zu S1).s;omega))
 have P2:=zh (Triples.lit30 70 w1 w.heap.size (zu S1).b.size)
 have L0:=zh (show ListOf (sumK (legsOf x.b.ts (nos.take 0))) [] from list_nil _ (fun a i=>rfl))
 go_wp2
 generalize hw2:w1.alloc (.cells #[] 70)=w2 at *
 have z1:=(zu S1).s
 have z2:w1.heap.size<w2.heap.size:=by rw[←hw2];simp
 clear hw2 S1 N1 A1
 go_loopw [7,8] (fun s i wr=>∃(ps:List T3) (gs cs k:Nat),s= .slice (some ⟨gs,0,none⟩) ps.length cs∧i= .int .i64 k∧k≤nos.length∧ps.length≤4*k∧Hid (ListOf (sumK (legsOf x.b.ts (nos.take k))) ps)∧Hid (AllOpen x.b.ts (nos.take k))∧Hid ((nos.take k).Nodup)∧Hid (Own3 70 wr w.heap.size gs ps.length cs ps)∧Hid (St w wr x)∧Hid (Below w2.heap.size w2 wr)) (fun _ i _=>nos.length-(intOf i).toNat)
 case atStart=>exact⟨[],w1.heap.size,0,0,rfl,rfl,by omega,by simp,L0,zh (fun no hn=>by simp at hn),zh (by simp),P2,S2,zh (Below.refl _ _)⟩
 case round=>
  clear P2 L0
  obtain⟨ps,gs,cs,k,rfl,rfl,hk,pl,HL,HA,HD,HP,HS,HB⟩:=hrel
  by_cases t:k<nos.length
  ·have C:=(zu HS).c
   have AW:=zh ((zu A2).below (zu HB) (by omega))
   obtain⟨no,hno⟩:∃no,Hid (nos.getD k 0=no):=⟨_,rfl⟩
   have cN:wr.cell? ⟨gN,k,none⟩=some (.int .i64 no):=by rw[←zu hno];exact(zu AW) k t
   have K4:=And.intro C.c0 (And.intro C.c1 (And.intro C.c2 (And.intro C.c3 (And.intro C.c4 (And.intro C.c5 cN)))))
   clear C
   go_wp2_with fail
   go_region_held3 (fun w'=>w'.cell? ⟨w.heap.size,0,none⟩=some (.slice (some ⟨x.ga,0,none⟩) x.b.ac.length x.ca)∧w'.cell? ⟨w.heap.size,1,none⟩=some (.slice (some ⟨x.gi,0,none⟩) x.b.ic.length x.ci)∧w'.cell? ⟨w.heap.size,2,none⟩=some (.slice (some ⟨x.gb,0,none⟩) x.b.bs.length x.cb)∧w'.cell? ⟨w.heap.size,3,none⟩=some (.slice (some ⟨x.gl,0,none⟩) x.b.ls.length x.cl)∧w'.cell? ⟨w.heap.size,4,none⟩=some (.slice (some ⟨x.gt,0,none⟩) x.b.ts.length x.ct)∧w'.cell? ⟨w.heap.size,5,none⟩=some (.int .i64 x.b.lot)∧w'.cell? ⟨gN,k,none⟩=some (.int .i64 no)) (first|with_reducible exact K4|with_reducible exact K5|exact K4)
    (first|(go_at_call 26;refine(STrd.sOpenAt wr.drew x no ((zu HS).r.below (Below.refl _ _).drew)).mono ?_;rintro e u1 ⟨r,c,ho,rfl,bb⟩;have bW:=zh (show Below wr.heap.size wr u1 from ILotsFit.below_of_drew bb);have S3:=zh ((zu HS).step (zu bW));have A3:=zh ((zu AW).below (zu bW) (by have:=(zu HB).size;omega));have P3:=zh ((zu HP).below (zu bW) (zu HP).lt.2);have HB3:=zh ((zu HB).trans ((zu bW).mono (zu HB).size));have HO:=zh ho;have K5:=And.intro (zu S3).c.c0 (And.intro (zu S3).c.c1 (And.intro (zu S3).c.c2 (And.intro (zu S3).c.c3 (And.intro (zu S3).c.c4 (And.intro (zu S3).c.c5 (((zu bW).cell (p:=⟨gN,k,none⟩) (show gN<wr.heap.size by have:=(zu HB).size;omega)).trans cN))))));clear bb ho))
   clear K4 K5
   obtain⟨c4',cN'⟩:u1.cell? ⟨w.heap.size,4,none⟩=some (.slice (some ⟨x.gt,0,none⟩) x.b.ts.length x.ct)∧u1.cell? ⟨gN,k,none⟩=some (.int .i64 no):=⟨(zu S3).c.c4,by rw[←zu hno];exact(zu A3) k t⟩
   rcases zu HO with⟨hn,rfl,rfl⟩|⟨n,hn,rfl,⟨hst,rfl⟩|⟨hst,rfl⟩⟩
   ·have F:=zh (show IsNetL x.b nos [] false from .inr ⟨fun kk=>by
     obtain⟨m,hm,_⟩:=kk.2.2.1 _ (mem_nos t)
     rw[zu hno] at hm
     exact hm.not hn,rfl,rfl⟩)
    have N3:=zh ((zu N2).below (zu HB3) (zu N2).lt.2)
    clear hn HO
    go_wp2_with fail
    go_quiet (fail)
    go_wp2
    go_ret2
    exact⟨[],false,w.heap.size+1,0,zu F,by simp,rfl,zu N3,Tup8.below_drewN (zu S3).b _⟩
   ·have F:=zh (show IsNetL x.b nos [] false from .inr ⟨fun kk=>by
     obtain⟨m,hm,hs⟩:=kk.2.2.1 _ (mem_nos t)
     rw[zu hno] at hm
     rw[hm.same hn] at hs
     exact hst hs,rfl,rfl⟩)
    have N3:=zh ((zu N2).below (zu HB3) (zu N2).lt.2)
    clear hn HO hst
    go_wp2_with fail
    go_quiet (fail)
    go_wp2
    go_ret2
    exact⟨[],false,w.heap.size+1,0,zu F,by simp,rfl,zu N3,Tup8.below_drewN (zu S3).b _⟩
   ·obtain⟨b1,h1⟩:=Bals.says_of (no∈nos.take k)
    have H1:=zh h1
    have KK:=zh hn
    have HST:=zh hst
    clear hn HO hst h1
    have ng:gN<u1.heap.size:=by have:=(zu HB3).size;omega
    have C0:∀n:Quieter.Near u1,n.u.cell? ⟨gN,k,none⟩=some (.int .i64 no):=fun n=>(n.b.cell (p:=⟨gN,k,none⟩) ng).trans cN'
    have near:=Quieter.near_is u1
    go_wp2_with fail
    refine Quieter.quiet_near (by kernel_rfl) (by kernel_rfl) ?_
    repeat(go_big_quiet_step (first
     |(go_at_call 27
       rename_i nn
       refine(Post.sHas nn.u gN k capN (nos.take k) no b1 (by simp;omega) (by omega) (at_take ((zu A3).below nn.b ng) k) (zu H1)).mono ?_
       rintro e u6 ⟨rfl,rfl⟩
       exact⟨rfl,⟨_,nn.b⟩,rfl⟩)))
    refine wpQuiet_nil ?_
    rintro u2 ⟨⟨v2,c9⟩,e9⟩
    have b9:Below u1.heap.size u1 u2:=by rw[e9];exact c9
    clear e9 c9 v2
    have S4:=zh ((zu S3).step b9)
    have HB4:=zh ((zu HB3).trans (b9.mono (zu HB3).size))
    have P4:=zh ((zu P3).below b9 (zu P3).lt.2)
    clear near C0 b9 S3 P3 HB3 bW
    cases b1
    rotate_left
    ·have F:=zh (show IsNetL x.b nos [] false from .inr ⟨fun kk=>has_dup t (by rw[zu hno];exact(zu H1).yes) kk.2.2.2.1,rfl,rfl⟩)
     have N3:=zh ((zu N2).below (zu HB4) (zu N2).lt.2)
     go_wp2
     go_ret2
     exact⟨[],false,w.heap.size+1,0,zu F,by simp,rfl,zu N3,(zu S4).b⟩
    have HA':=zh (open_next t (zu HA) ⟨n,by rw[zu hno];exact zu KK,zu HST⟩)
    have HD':=zh (nodup_next t (zu HD) (by rw[zu hno];exact(zu H1).no))
    have tn:=(zu KK).1
    have TO:=zh ((zu OK).1.2.2.2.2.1.2 n tn).1
    have TR:=zh (show legsOf x.b.ts (nos.take (k+1))=legsOf x.b.ts (nos.take k)++legsT (el8 x.b.ts n) from by
     rw[take_nos t,legs_append,zu hno]
     show _++(legsT (tradeNo x.b.ts no)++[])=_
     rw[trade_at (zu KK),List.append_nil])
    obtain⟨d0,d1,d2,d3,d4,d5,d6,d7⟩:=(zu S4).r.rt n tn
    clear KK HST HD H1 cN cN' c4'
    generalize el8 x.b.ts n=p at *
    obtain⟨p0,p1,p2,p3,p4,p5,p6,p7⟩:=p
    have q1:0≤p4:=by have:=(zu TO).2.2.2.2.2.2.1.1;simp at this;omega
    have q2:p4≤1000000000000000:=(zu TO).2.2.2.2.2.2.1.2
    have q3:0≤p6:=(zu TO).2.2.2.2.2.2.2.1.1
    have q4:p6≤1000000000000000:=(zu TO).2.2.2.2.2.2.2.1.2
    have c4:=(zu S4).c.c4
    go_wp2_with fail
    refine(SLegs.sLegs _ p0 p1 p2 p3 p4 p5 p6 p7 q1 q2 q3 q4).mono ?_
    rintro e u3 ⟨gL,cL,rfl,oL,bb⟩
    have S5:=zh ((zu S4).step bb)
    have HB5:=zh ((zu HB4).trans (bb.mono (zu HB4).size))
    have P5:=zh ((zu P4).below bb (zu P4).lt.2)
    have OL:=zh oL
    have FM:=zh (legsT_amt (zu TO))
    clear bb oL S4 HB4 P4 d0 d1 d2 d3 d4 d5 d6 d7 c4
    have HL':=zh (show ListOf (sumK (legsOf x.b.ts (nos.take k)++(legsT (p0,p1,p2,p3,p4,p5,p6,p7)).take 0)) ps from by rw[List.take_zero,List.append_nil];exact zu HL)
    have LL:=zh (legs_len x.b.ts (nos.take k))
    have LA:=zh (legsOf_amt (zu OK).1.2.2.2.2.1 (zu HA))
    obtain⟨L,hL⟩:∃L,Hid (legsOf x.b.ts (nos.take k)=L):=⟨_,rfl⟩
    rw[zu hL] at TR HL' LL LA
    obtain⟨T,hT⟩:∃T,Hid (legsT (p0,p1,p2,p3,p4,p5,p6,p7)=T):=⟨_,rfl⟩
    rw[zu hT] at TR HL' FM OL
    have TL:T.length=4:=by rw[←zu hT];rfl
    have HTL:=zh TL
    clear TL HL hL hT TO
    go_wp2
    go_loopw [7,12] (fun s j wr=>∃(qs:List T3) (gq cq m:Nat),s= .slice (some ⟨gq,0,none⟩) qs.length cq∧j= .int .i64 m∧m≤4∧qs.length≤4*k+m∧Hid (ListOf (sumK (L++T.take m)) qs)∧Hid (Own3 70 wr w.heap.size gq qs.length cq qs)∧Hid (St w wr x)∧Hid (Below u3.heap.size u3 wr)) (fun _ j _=>4-(intOf j).toNat)
    case atStart=>exact⟨ps,gs,cs,0,rfl,rfl,by omega,by omega,HL',P5,S5,zh (Below.refl _ _)⟩
    case round=>
     clear HL' P5 S5
     obtain⟨qs,gq,cq,m,rfl,rfl,hm,ql,HQ,OQ,SQ,BQ⟩:=hrel
     by_cases t2:m<4
     ·have lm:m<T.length:=by rw[zu HTL];exact t2
      have gl:=(zu OL).lt
      obtain⟨e0,e1,e2⟩:=((zu OL).at.below (zu BQ) gl.2) m lm
      have TN:=zh (Bals.take_next lm)
      have AL:=zh ((zu FM) _ (Bals.getD_mem lm))
      obtain⟨l,hl⟩:∃l,Hid (el3 T m=l):=⟨_,rfl⟩
      rw[zu hl] at e0 e1 e2 TN AL
      obtain⟨l0,l1,l2⟩:=l
      obtain⟨v,hv⟩:∃v,Hid (val qs l0 l1=v):=⟨_,rfl⟩
      have VB:=sumK_near (ps:=L++T.take m) (fun l hl=>by
       rcases List.mem_append.1 hl with hl|hl
       ·exact(zu LA) l hl
       ·exact(zu FM) l (List.mem_of_mem_take hl)) (by
       rw[List.length_append,zu LL,List.length_take,List.length_take,zu HTL];omega) l0 l1
      rw[←(zu HQ).2,zu hv] at VB
      have AB:Amt l2:=zu AL
      unfold Amt at AB
      have HW:IntKind.i64.wrap (v+l2)=v+l2:=by rw[IntKind.wrap_i64]<;>omega
      obtain⟨put0,hput⟩:∃put0,Hid ((v+l2==0)=put0):=⟨_,rfl⟩
      have NX:=zh (show ListOf (sumK (L++T.take (m+1))) (putL (l0,l1,v+l2) qs put0) from by
       have:=list_leg (zu HQ) (l0,l1,l2) put0 (by show(val qs l0 l1+l2==0)=put0;rw[zu hv];exact zu hput)
       rw[zu TN,←List.append_assoc]
       show ListOf _ (putL (l0,l1,v+l2) qs put0)
       rw[←zu hv]
       exact this)
      have PL:=Bals.putL_len (l0,l1,v+l2) qs put0
      have PL2:(putL (l0,l1,v+l2) qs put0).length≤qs.length+1:=by cases put0<;>simp at PL<;>omega
      have HPL:=zh PL2
      clear TN AL hl VB AB PL PL2
      have K4:=And.intro e0 (And.intro e1 e2)
      have oq:=(zu OQ).lt
      go_wp2_with fail
      go_region_held3 (fun w'=>w'.cell? ⟨gL,m*3,none⟩=some (.int .i64 l0)∧w'.cell? ⟨gL,m*3+1,none⟩=some (.int .i64 l1)∧w'.cell? ⟨gL,m*3+2,none⟩=some (.int .i64 l2)) (first|exact K4|exact K5)
       (first|(go_at_call 30;refine(Look.sOf wr.drew gq qs.length cq qs l0 l1 rfl (by omega) ((zu OQ).at.below (B:=wr.heap.size) (Below.refl _ _).drew oq.2)).mono ?_;rintro e u5 ⟨he,rfl⟩;rw[zu hv] at he;subst he)|(go_at_call 29;refine(SPut3.sPut wr.drew gq qs.length cq qs l0 l1 (v+l2) put0 rfl (by omega) oq.2 ((zu OQ).at.below (B:=wr.heap.size) (Below.refl _ _).drew oq.2) (zu hput)).mono ?_;rintro e u6 ⟨g6,c6,rfl,o6,bb⟩;have bW:=zh (show Below wr.heap.size wr u6 from ILotsFit.below_of_drew bb);have O6:=zh o6;have K5:=And.intro (((zu bW).cell (p:=⟨gL,m*3,none⟩) (show gL<wr.heap.size by have:=(zu BQ).size;omega)).trans e0) (And.intro (((zu bW).cell (p:=⟨gL,m*3+1,none⟩) (show gL<wr.heap.size by have:=(zu BQ).size;omega)).trans e1) (((zu bW).cell (p:=⟨gL,m*3+2,none⟩) (show gL<wr.heap.size by have:=(zu BQ).size;omega)).trans e2));clear bb o6))
      clear K4 K5 e0 e1 e2
      have S7:=zh ((zu SQ).step (zu bW))
      have B7:=zh ((zu BQ).trans ((zu bW).mono (zu BQ).size))
      have O7:=zh ((zu O6).rebase (base':=w.heap.size) (by have h1:wr.heap.size≤g6:=(zu O6).lt.1;have:=(zu SQ).b.size;omega))
      obtain⟨R,hR⟩:∃R,Hid (putL (l0,l1,v+l2) qs put0=R):=⟨_,rfl⟩
      rw[zu hR] at O7 NX HPL
      rw[zu hR]
      go_wp2
      go_roundw
      case rel=>exact⟨R,g6,c6,m+1,rfl,by go_num,by omega,by have:=zu HPL;omega,NX,O7,S7,B7⟩
      case measure=>simp[intOf];omega
     ·obtain rfl:m=4:=by omega
      have HQ':=zh (show ListOf (sumK (legsOf x.b.ts (nos.take (k+1)))) qs from by
       have:=zu HQ
       rw[List.take_of_length_le (by rw[zu HTL];exact Nat.le_refl _)] at this
       rw[zu TR];exact this)
      have HB9:=zh ((zu HB5).trans ((zu BQ).mono (zu HB5).size))
      go_wp2
      go_roundw
      case rel=>exact⟨qs,gq,cq,k+1,rfl,by go_num,by omega,by omega,HQ',HA',HD',OQ,SQ,HB9⟩
      case measure=>simp[intOf];omega
  ·obtain rfl:k=nos.length:=by omega
   rw[List.take_length] at HL HA HD
   have CAN:=zh (show(∀q∈ps,Amt q.2.2)→CanNet x.b nos from fun h=>⟨zu OK,n30,zu HA,zu HD,(list_amt (zu HL)).1 h⟩)
   have NOT:=zh (show ¬(∀q∈ps,Amt q.2.2)→IsNetL x.b nos [] false from fun h=> .inr ⟨fun kk=>h ((list_amt (zu HL)).2 kk.2.2.2.2),rfl,rfl⟩)
   have hp:=(zu HP).lt
   have hs:=(zu HS).b.size
   have S9:=zh ((zu HS).b.trans ((one_more wr (.cells #[] 67)).mono hs))
   have G9:=zh (Triples.lit30 67 wr w.heap.size hs)
   have P9:=zh ((zu HP).at.below (one_more wr (.cells #[] 67)) hp.2)
   have N9:=zh (((zu N2).below (zu HB) (zu N2).lt.2).alloc (.cells #[] 67))
   have n9:=((zu N2).below (zu HB) (zu N2).lt.2).lt.2
   go_wp2
   have z9:wr.heap.size<(wr.alloc (.cells #[] 67)).heap.size:=by simp
   generalize wr.alloc (.cells #[] 67)=w9 at *
   clear HP HS HB S2 N2 A2 HA HD
   generalize wr.heap.size=Z at *
   go_loopw [13,14] (fun o i wz=>∃(g c j:Nat),o= .slice (some ⟨g,0,none⟩) j c∧i= .int .i64 j∧j≤ps.length∧Hid (∀q∈ps.take j,Amt q.2.2)∧Hid (Own3 67 wz w.heap.size g j c (ps.take j))∧Z≤g∧Hid (Below Z w9 wz)) (fun _ i _=>ps.length-(intOf i).toNat)
   case atStart=>exact⟨Z,0,0,rfl,rfl,by omega,zh (fun q hq=>by simp at hq),G9,Nat.le_refl _,zh (Below.refl _ _)⟩
   case round=>
    clear G9
    obtain⟨g,c,j,rfl,rfl,hj,HG,OG,hg,HB⟩:=hrel
    have wz1:=(zu HB).size
    have wz1':=Nat.le_trans (Nat.le_of_lt z9) wz1
    by_cases t:j<ps.length
    ·obtain⟨e0,e1,e2⟩:=((zu P9).below (zu HB) hp.2) j t
     have TN:=zh (Bals.take_next t)
     have PM:=zh (Bals.getD_mem t)
     obtain⟨q,hq⟩:∃q,Hid (el3 ps j=q):=⟨_,rfl⟩
     rw[zu hq] at e0 e1 e2 TN PM
     obtain⟨y0,y1,y2⟩:=q
     obtain⟨b1,h1⟩:=Bals.says_of (Amt y2)
     have H1:=zh h1
     clear h1 hq
     go_wp2_with fail
     refine(SOk3.sAmt y2 b1 _ (zu H1)).mono ?_
     rintro e v1 ⟨rfl,rfl⟩
     cases b1
     ·have F:=zh ((zu NOT) (fun h=>(zu H1).no (h _ (zu PM))))
      have N3:=zh ((zu N9).below (zu HB) n9)
      have B3:=zh ((zu S9).trans ((zu HB).mono hs))
      go_wp2
      go_ret2
      exact⟨[],false,w.heap.size+1,0,zu F,by simp,rfl,zu N3,zu B3⟩
     have HG':=zh (show ∀q∈ps.take (j+1),Amt q.2.2 from fun q hq=>by
      rw[zu TN] at hq
      rcases List.mem_append.1 hq with hq|hq
      ·exact(zu HG) q hq
      ·rw[List.mem_singleton.1 hq];exact(zu H1).yes)
     have K4:=And.intro e0 (And.intro e1 e2)
     have gv:gs<v1.heap.size:=by omega
     have AO:=zh (one_more v1 (.cells #[.int .i64 y0,.int .i64 y1,.int .i64 y2] 67))
     have K5:=And.intro (((zu AO).cell (p:=⟨gs,j*3,none⟩) gv).trans e0) (And.intro (((zu AO).cell (p:=⟨gs,j*3+1,none⟩) gv).trans e1) (((zu AO).cell (p:=⟨gs,j*3+2,none⟩) gv).trans e2))
     have OG5:=zh ((zu OG).alloc (.cells #[.int .i64 y0,.int .i64 y1,.int .i64 y2] 67))
     have X5:=zh (show At3 (v1.alloc (.cells #[.int .i64 y0,.int .i64 y1,.int .i64 y2] 67)) v1.heap.size [(y0,y1,y2)] from by
      intro i hi
      obtain rfl:i=0:=by simpa using hi
      simp[Holds3])
     have ne:some gs≠some g:=fun e=>by injection e;omega
     go_wp2_with fail
     go_region_held3 (fun w'=>w'.cell? ⟨gs,j*3,none⟩=some (.int .i64 y0)∧w'.cell? ⟨gs,j*3+1,none⟩=some (.int .i64 y1)∧w'.cell? ⟨gs,j*3+2,none⟩=some (.int .i64 y2)) (first|exact K4|exact K5|exact K6)
      (first|(refine SLegs.step_cat3 _ (by rfl) _ _ (by rfl) w.heap.size g j c 1 (ps.take j) [(y0,y1,y2)] v1.heap.size 1 (by rfl) (by rfl) (by exact zu OG5) (by rfl) (by exact zu X5) (by omega) (by simp;omega) ?_;intro g5 c5 w5 o5 gr5 loc5;have O5:=zh o5;have GR:=zh gr5;have LOC:=zh loc5;have K6:=And.intro (gr5.cell K5.1 ne) (And.intro (gr5.cell K5.2.1 ne) (gr5.cell K5.2.2 ne));clear o5 gr5 loc5))
     clear K4 K5 K6 e0 e1 e2
     have B5:=zh (((zu HB).trans ((zu AO).mono wz1')).drew.grown (zu GR) (by simp;omega) (fun i e=>by injection e;omega))
     have O6:=zh (show Own3 67 w5 w.heap.size g5 (j+1) c5 (ps.take (j+1)) from by rw[zu TN];exact zu O5)
     have g6:Z≤g5:=by
      rcases zu LOC with e|e
      ·omega
      ·rw[e];simp;omega
     go_wp2
     go_roundw
     case rel=>exact⟨g5,c5,j+1,by simp,by go_num,by omega,HG',O6,g6,B5⟩
     case measure=>simp[intOf];omega
    ·obtain rfl:j=ps.length:=by omega
     rw[List.take_length] at HG OG
     have F:=zh (show IsNetL x.b nos ps true from .inl ⟨(zu CAN) (zu HG),zu HL,rfl⟩)
     have B3:=zh ((zu S9).trans ((zu HB).mono hs))
     go_wp2
     go_ret2
     exact⟨ps,true,g,c,zu F,by omega,rfl,zu OG,zu B3⟩
end SNetL
namespace SNet
open BMem Bks ILists BHelp Ans Trd TBox Net
open IBalsFit (one_more)
open Lots (Says says_of NoOk)
open Bals (T3 Amt)
open Triples (Own3)
open SIssue (to_wb off_box eq_false ne_true)
def ToldW(b:Bk)(lo hi fk:Int):Prop:=Ok b∧NoOk lo∧NoOk hi∧(1≤fk∧fk≤3)
def AnsN(told:Prop)(P:Bk→List T3→Int→Int→Prop)(w:World)(e:Ending)(w':World):Prop:=
 (¬told∧∃g c,e= .returned (.tuple #[.agg #[.slice none 0 0,.slice none 0 0,.slice none 0 0,.slice none 0 0,.slice none 0 0,.int .i64 0],.slice (some ⟨g,0,none⟩) 0 c,.int .i64 0,.int .i64 1])∧Own3 67 w' w.heap.size g 0 c []∧Below w.heap.size w w')∨
 (told∧∃(z:Bx) (ls:List T3) (t c:Int) (g cap:Nat),P z.b ls t c∧ls.length≤120∧e= .returned (.tuple #[.agg #[.slice (some ⟨z.ga,0,none⟩) z.b.ac.length z.ca,.slice (some ⟨z.gi,0,none⟩) z.b.ic.length z.ci,.slice (some ⟨z.gb,0,none⟩) z.b.bs.length z.cb,.slice (some ⟨z.gl,0,none⟩) z.b.ls.length z.cl,.slice (some ⟨z.gt,0,none⟩) z.b.ts.length z.ct,.int .i64 z.b.lot],.slice (some ⟨g,0,none⟩) ls.length cap,.int .i64 t,.int .i64 c])∧Ow w' w.heap.size z∧Own3 67 w' w.heap.size g ls.length cap ls∧Below w.heap.size w w')
theorem own_cap{w:World}{base g n c:Nat}{xs:List Int}(h:Ints.Own w base g n c xs):n≤c∧c≤maxLen:=by
 rcases h.2 with⟨h1,_⟩|⟨g',c',cur,h1,hb,hg,hnc,hcm,hcs,htake⟩
 ·simp at h1
 ·obtain⟨rfl,rfl⟩:g=g'∧c=c':=by simpa using h1
  exact⟨hnc,hcm⟩
theorem open_ok{b:Bk}(h:Ok b){lo hi:Int}:∀{ts:List Tup8.T8},(∀p∈ts,p∈b.ts)→∀no∈openT lo hi ts,NoOk no
 |[],_,no,hn=>by simp[openT] at hn
 |p::r,hs,no,hn=>by
  unfold openT at hn
  rcases List.mem_append.1 hn with hn|hn
  ·split at hn
   ·rw[List.mem_singleton.1 hn]
    exact(((Keep.tright_iff _).1 h.1.2.2.2.2.1).2.1 p (hs p (by simp))).1
   ·simp at hn
  ·exact open_ok h (fun q hq=>hs q (by simp[hq])) no hn
theorem ansM_of{told:Prop}{P:Bk→Int→Int→Prop}{w w':World}{e:Ending}(h:SMove.AnsM told P w e w')(ht:told):∃(z:Bx) (t c:Int),P z.b t c∧e= .returned (.tuple #[.agg #[.slice (some ⟨z.ga,0,none⟩) z.b.ac.length z.ca,.slice (some ⟨z.gi,0,none⟩) z.b.ic.length z.ci,.slice (some ⟨z.gb,0,none⟩) z.b.bs.length z.cb,.slice (some ⟨z.gl,0,none⟩) z.b.ls.length z.cl,.slice (some ⟨z.gt,0,none⟩) z.b.ts.length z.ct,.int .i64 z.b.lot],.int .i64 t,.int .i64 c])∧Ow w' w.heap.size z∧Below w.heap.size w w':=by
 rcases h with⟨n,_⟩|⟨_,h⟩
 ·exact absurd ht n
 ·exact h
theorem hold7{W W':World}{base go gT n cT k:Nat}{v0 v1 v2 v3 v4 v5:Value}{xs:List Int}{no:Int}(V:Box W base go v0 v1 v2 v3 v4 v5)(o:Ints.Own W base gT n cT xs)(hk:k<xs.length)(hn:xs.getD k 0=no)(b:Below W.heap.size W W'):W'.cell? ⟨go,0,none⟩=some v0∧W'.cell? ⟨go,1,none⟩=some v1∧W'.cell? ⟨go,2,none⟩=some v2∧W'.cell? ⟨go,3,none⟩=some v3∧W'.cell? ⟨go,4,none⟩=some v4∧W'.cell? ⟨go,5,none⟩=some v5∧W'.cell? ⟨gT,k,none⟩=some (.int .i64 no):=by
 have V':=V.below b V.lt.2
 have o':=o.below b o.lt.2
 exact⟨V'.c0,V'.c1,V'.c2,V'.c3,V'.c4,V'.c5,by rw[←hn];exact o'.at k hk⟩
theorem drop_nos{xs:List Int}{k:Nat}(h:k<xs.length):xs.drop k=xs.getD k 0::xs.drop (k+1):=by
 rw[List.drop_eq_getElem_cons h]
 simp[List.getD,h]
theorem sNet(w:World)(x:Bx)(lo hi fk:Int)(hr:Rd w x):
  Calls Tryz.prog 17 #[.agg #[.slice (some ⟨x.ga,0,none⟩) x.b.ac.length x.ca,.slice (some ⟨x.gi,0,none⟩) x.b.ic.length x.ci,.slice (some ⟨x.gb,0,none⟩) x.b.bs.length x.cb,.slice (some ⟨x.gl,0,none⟩) x.b.ls.length x.cl,.slice (some ⟨x.gt,0,none⟩) x.b.ts.length x.ct,.int .i64 x.b.lot],.int .i64 lo,.int .i64 hi,.int .i64 fk] w (AnsN (ToldW x.b lo hi fk) (IsNet x.b lo hi fk) w):=by
 obtain⟨b0,h0⟩:=says_of (Ok x.b)
 obtain⟨b1,h1⟩:=says_of (NoOk lo)
 obtain⟨b2,h2⟩:=says_of (NoOk hi)
 obtain⟨b3,h3⟩:=says_of (1≤fk∧fk≤3)
 have H0:=zh h0
 have H1:=zh h1
 have H2:=zh h2
 have H3:=zh h3
 have S0:=zh ((SR.start hr).step (one_more _ (.cells #[] 67)))
 have N0:=zh (show Own3 67 (((w.alloc (.cells #[.slice (some ⟨x.ga,0,none⟩) x.b.ac.length x.ca,.slice (some ⟨x.gi,0,none⟩) x.b.ic.length x.ci,.slice (some ⟨x.gb,0,none⟩) x.b.bs.length x.cb,.slice (some ⟨x.gl,0,none⟩) x.b.ls.length x.cl,.slice (some ⟨x.gt,0,none⟩) x.b.ts.length x.ct,.int .i64 x.b.lot] 40)).alloc (.cells #[.slice none 0 0,.slice none 0 0,.slice none 0 0,.slice none 0 0,.slice none 0 0,.int .i64 0] 40)).alloc (.cells #[] 67)) w.heap.size (w.heap.size+2) 0 0 [] from by
  have:=Triples.lit30 67 ((w.alloc (.cells #[.slice (some ⟨x.ga,0,none⟩) x.b.ac.length x.ca,.slice (some ⟨x.gi,0,none⟩) x.b.ic.length x.ci,.slice (some ⟨x.gb,0,none⟩) x.b.bs.length x.cb,.slice (some ⟨x.gl,0,none⟩) x.b.ls.length x.cl,.slice (some ⟨x.gt,0,none⟩) x.b.ts.length x.ct,.int .i64 x.b.lot] 40)).alloc (.cells #[.slice none 0 0,.slice none 0 0,.slice none 0 0,.slice none 0 0,.slice none 0 0,.int .i64 0] 40)) w.heap.size (by simp;omega)
  simpa using this)
 have HR:=zh hr
 have nt:=hr.nt
 clear h0 h1 h2 h3 hr
 go_enter Tryz.func17,Tryz.ntmps17
 go_wp2_with fail
 refine(SBooksOk.sBooksOk _ x b0 (zu S0).r (zu H0)).mono ?_
 rintro e w1 ⟨rfl,bb⟩
 have S1:=zh ((zu S0).step bb)
 have N1:=zh ((zu N0).below bb (zu N0).lt.2)
 have B1:=zh (zu S1).b
 clear bb N0
 obtain⟨c0,c1,c2,c3,c4,c5⟩:=(zu S1).c
 obtain⟨r0,r1,r2,r3,r4,r5,f0,f1,f2,f3,f4,f5⟩:=Box.all ((zu S1).v)
 cases b0
 ·have N:=zh (show ¬ToldW x.b lo hi fk from fun hh=>(zu H0).no hh.1)
  go_wp2
  refine bodyPost_ret (v:= .tuple #[.agg #[.slice none 0 0,.slice none 0 0,.slice none 0 0,.slice none 0 0,.slice none 0 0,.int .i64 0],.slice (some ⟨w.heap.size+2,0,none⟩) 0 0,.int .i64 0,.int .i64 1]) (by simp[results,Tryz.results17,go_sem,r0,r1,r2,r3,r4,r5]) rfl (.inl ⟨zu N,w.heap.size+2,0,rfl,?_,?_⟩)
  ·exact(zu N1).kept (box_six (zu S1).v _ _ _ _ _ _).2 (fun e=>by injection e;omega)
  ·exact six (zu B1) (by omega) _ _ _ _ _ _
 go_wp2_with fail
 refine(SOk5.sNo lo b1 _ (zu H1)).mono ?_
 rintro e v1 ⟨rfl,rfl⟩
 cases b1
 ·have N:=zh (show ¬ToldW x.b lo hi fk from fun hh=>(zu H1).no hh.2.1)
  go_wp2
  refine bodyPost_ret (v:= .tuple #[.agg #[.slice none 0 0,.slice none 0 0,.slice none 0 0,.slice none 0 0,.slice none 0 0,.int .i64 0],.slice (some ⟨w.heap.size+2,0,none⟩) 0 0,.int .i64 0,.int .i64 1]) (by simp[results,Tryz.results17,go_sem,r0,r1,r2,r3,r4,r5]) rfl (.inl ⟨zu N,w.heap.size+2,0,rfl,?_,?_⟩)
  ·exact(zu N1).kept (box_six (zu S1).v _ _ _ _ _ _).2 (fun e=>by injection e;omega)
  ·exact six (zu B1) (by omega) _ _ _ _ _ _
 go_wp2_with fail
 refine(SOk5.sNo hi b2 _ (zu H2)).mono ?_
 rintro e v2 ⟨rfl,rfl⟩
 cases b2
 ·have N:=zh (show ¬ToldW x.b lo hi fk from fun hh=>(zu H2).no hh.2.2.1)
  go_wp2
  refine bodyPost_ret (v:= .tuple #[.agg #[.slice none 0 0,.slice none 0 0,.slice none 0 0,.slice none 0 0,.slice none 0 0,.int .i64 0],.slice (some ⟨w.heap.size+2,0,none⟩) 0 0,.int .i64 0,.int .i64 1]) (by simp[results,Tryz.results17,go_sem,r0,r1,r2,r3,r4,r5]) rfl (.inl ⟨zu N,w.heap.size+2,0,rfl,?_,?_⟩)
  ·exact(zu N1).kept (box_six (zu S1).v _ _ _ _ _ _).2 (fun e=>by injection e;omega)
  ·exact six (zu B1) (by omega) _ _ _ _ _ _
 go_wp2_with fail
 refine(SOk5.sIn fk 1 3 b3 _ (zu H3)).mono ?_
 rintro e v3 ⟨rfl,rfl⟩
 cases b3
 ·have N:=zh (show ¬ToldW x.b lo hi fk from fun hh=>(zu H3).no hh.2.2.2)
  go_wp2
  refine bodyPost_ret (v:= .tuple #[.agg #[.slice none 0 0,.slice none 0 0,.slice none 0 0,.slice none 0 0,.slice none 0 0,.int .i64 0],.slice (some ⟨w.heap.size+2,0,none⟩) 0 0,.int .i64 0,.int .i64 1]) (by simp[results,Tryz.results17,go_sem,r0,r1,r2,r3,r4,r5]) rfl (.inl ⟨zu N,w.heap.size+2,0,rfl,?_,?_⟩)
  ·exact(zu N1).kept (box_six (zu S1).v _ _ _ _ _ _).2 (fun e=>by injection e;omega)
  ·exact six (zu B1) (by omega) _ _ _ _ _ _
 have TT:=zh (show ToldW x.b lo hi fk from⟨(zu H0).yes,(zu H1).yes,(zu H2).yes,(zu H3).yes⟩)
 clear H0 H1 H2 H3 S0
 go_wp2_with fail
 refine(STell.sTradesOpen _ x lo hi (zu S1).r).mono ?_
 rintro e w2 ⟨xs,gT,cT,hxs,xl,rfl,oT,bb⟩
 have XS:=zh (show xs=openT lo hi x.b.ts from by
  rcases hxs with⟨_,h⟩|⟨h,_⟩
  ·exact h
  ·exact absurd (zu TT).1 h)
 have S2:=zh ((zu S1).step bb)
 have N2:=zh ((zu N1).below bb (zu N1).lt.2)
 have OT:=zh (oT.rebase (base':=w.heap.size) (by have:=oT.lt.1;have:=(zu S1).b.size;omega))
 have gT1:w.heap.size+2<gT:=by have:=oT.lt.1;have:=(zu N1).lt.2;omega
 have x30:x.b.ts.length≤30:=(zu TT).1.1.2.2.2.2.1.1
 have n20:xs.length≤1048576:=by omega
 clear bb oT hxs S1 N1 B1
 clear c0 c1 c2 c3 c4 c5 r0 r1 r2 r3 r4 r5 f0 f1 f2 f3 f4 f5
 obtain⟨c0,c1,c2,c3,c4,c5⟩:=(zu S2).c
 obtain⟨r0,r1,r2,r3,r4,r5,f0,f1,f2,f3,f4,f5⟩:=Box.all ((zu S2).v)
 by_cases e0:xs.length=0
 ·have I3:=zh (show IsNet x.b lo hi fk x.b [] 0 3 from .inl ⟨by rw[←zu XS];exact List.eq_nil_of_length_eq_zero e0,rfl,rfl,rfl,rfl⟩)
  have eb:((xs.length:Int)==0)=true:=by rw[e0];rfl
  clear e0
  go_wp2_with fail
  refine(SCopy.sCopy _ x (zu S2).r).mono ?_
  rintro e w8 ⟨zc,hzc,rfl,oz,bb⟩
  have S8:=zh ((zu S2).step bb)
  have N8:=zh ((zu N2).below bb (zu N2).lt.2)
  have OZ:=zh (oz.rebase (zu S2).b.size)
  have LZ:=zh (ow_lo oz)
  have zl:=(zu S2).v.lt.2
  have IZ:=zh (show IsNet x.b lo hi fk zc.b [] 0 3 from by rw[hzc];exact(zu I3))
  clear bb oz hzc
  clear c0 c1 c2 c3 c4 c5 r0 r1 r2 r3 r4 r5 f0 f1 f2 f3 f4 f5
  obtain⟨c0,c1,c2,c3,c4,c5⟩:=(zu S8).c
  obtain⟨r0,r1,r2,r3,r4,r5,f0,f1,f2,f3,f4,f5⟩:=Box.all ((zu S8).v)
  go_wp2
  refine bodyPost_ret (v:= .tuple #[.agg #[.slice (some ⟨zc.ga,0,none⟩) zc.b.ac.length zc.ca,.slice (some ⟨zc.gi,0,none⟩) zc.b.ic.length zc.ci,.slice (some ⟨zc.gb,0,none⟩) zc.b.bs.length zc.cb,.slice (some ⟨zc.gl,0,none⟩) zc.b.ls.length zc.cl,.slice (some ⟨zc.gt,0,none⟩) zc.b.ts.length zc.ct,.int .i64 zc.b.lot],.slice (some ⟨w.heap.size+2,0,none⟩) 0 0,.int .i64 0,.int .i64 3]) (by simp[results,Tryz.results17,go_sem,r0,r1,r2,r3,r4,r5]) rfl (.inr ⟨zu TT,zc,[],0,3,w.heap.size+2,0,zu IZ,by simp,rfl,?_,?_,?_⟩)
  ·exact ow_six (zu OZ) (off_lo (zu LZ) zl) _ _ _ _ _ _
  ·exact(zu N8).kept (box_six (zu S8).v _ _ _ _ _ _).2 (fun e=>by injection e;omega)
  ·exact six (zu S8).b (by omega) _ _ _ _ _ _
 have eb:((xs.length:Int)==0)=false:=SIssue.eq_false (by omega)
 have NE:=zh (show openT lo hi x.b.ts≠[] from fun h=>e0 (by rw[zu XS,h];rfl))
 clear e0
 go_wp2_with fail
 refine(SCopy.sCopy _ x (zu S2).r).mono ?_
 rintro e w3 ⟨z0,hz,rfl,oz,bb⟩
 have S3:=zh ((zu S2).step bb)
 have S4:=zh ((zu S3).step (one_more w3 (.cells #[.slice (some ⟨z0.ga,0,none⟩) z0.b.ac.length z0.ca,.slice (some ⟨z0.gi,0,none⟩) z0.b.ic.length z0.ci,.slice (some ⟨z0.gb,0,none⟩) z0.b.bs.length z0.cb,.slice (some ⟨z0.gl,0,none⟩) z0.b.ls.length z0.cl,.slice (some ⟨z0.gt,0,none⟩) z0.b.ts.length z0.ct,.int .i64 z0.b.lot] 40)))
 have V4:=zh (Box.made (w:=w3) (base:=w.heap.size) (g:=w3.heap.size) (.slice (some ⟨z0.ga,0,none⟩) z0.b.ac.length z0.ca) (.slice (some ⟨z0.gi,0,none⟩) z0.b.ic.length z0.ci) (.slice (some ⟨z0.gb,0,none⟩) z0.b.bs.length z0.cb) (.slice (some ⟨z0.gl,0,none⟩) z0.b.ls.length z0.cl) (.slice (some ⟨z0.gt,0,none⟩) z0.b.ts.length z0.ct) (.int .i64 z0.b.lot) (zu S3).b.size rfl)
 have O4:=zh (ow_alloc (oz.rebase (zu S2).b.size) (.cells #[.slice (some ⟨z0.ga,0,none⟩) z0.b.ac.length z0.ca,.slice (some ⟨z0.gi,0,none⟩) z0.b.ic.length z0.ci,.slice (some ⟨z0.gb,0,none⟩) z0.b.bs.length z0.cb,.slice (some ⟨z0.gl,0,none⟩) z0.b.ls.length z0.cl,.slice (some ⟨z0.gt,0,none⟩) z0.b.ts.length z0.ct,.int .i64 z0.b.lot] 40))
 have N4:=zh (((zu N2).below bb (zu N2).lt.2).alloc (.cells #[.slice (some ⟨z0.ga,0,none⟩) z0.b.ac.length z0.ca,.slice (some ⟨z0.gi,0,none⟩) z0.b.ic.length z0.ci,.slice (some ⟨z0.gb,0,none⟩) z0.b.bs.length z0.cb,.slice (some ⟨z0.gl,0,none⟩) z0.b.ls.length z0.cl,.slice (some ⟨z0.gt,0,none⟩) z0.b.ts.length z0.ct,.int .i64 z0.b.lot] 40))
 have OT4:=zh (Shorts.own_alloc ((zu OT).below bb (zu OT).lt.2) (.cells #[.slice (some ⟨z0.ga,0,none⟩) z0.b.ac.length z0.ca,.slice (some ⟨z0.gi,0,none⟩) z0.b.ic.length z0.ci,.slice (some ⟨z0.gb,0,none⟩) z0.b.bs.length z0.cb,.slice (some ⟨z0.gl,0,none⟩) z0.b.ls.length z0.cl,.slice (some ⟨z0.gt,0,none⟩) z0.b.ts.length z0.ct,.int .i64 z0.b.lot] 40))
 have gT2:gT<w3.heap.size:=((zu OT).below bb (zu OT).lt.2).lt.2
 have HZ:=zh hz
 have l3:=(zu S3).v.lt
 clear bb oz hz S3 S2 N2 OT
 clear c0 c1 c2 c3 c4 c5 r0 r1 r2 r3 r4 r5 f0 f1 f2 f3 f4 f5
 go_wp2
 generalize w3.alloc (.cells #[.slice (some ⟨z0.ga,0,none⟩) z0.b.ac.length z0.ca,.slice (some ⟨z0.gi,0,none⟩) z0.b.ic.length z0.ci,.slice (some ⟨z0.gb,0,none⟩) z0.b.bs.length z0.cb,.slice (some ⟨z0.gl,0,none⟩) z0.b.ls.length z0.cl,.slice (some ⟨z0.gt,0,none⟩) z0.b.ts.length z0.ct,.int .i64 z0.b.lot] 40)=w4 at *
 generalize w3.heap.size=go at *
 go_loopw [15,16] (fun a i wr=>∃(acc:Int) (k:Nat) (y:Bx),a= .int .i64 acc∧i= .int .i64 k∧k≤xs.length∧-(1000000000000000*(k:Int))≤acc∧acc≤1000000000000000*(k:Int)∧Hid (Ok y.b)∧Hid (∀b' g c,Net.Steps fk (xs.drop k) y.b acc b' g c→Net.Steps fk xs x.b 0 b' g c)∧Hid (SR w wr x)∧Hid (Box wr w.heap.size go (.slice (some ⟨y.ga,0,none⟩) y.b.ac.length y.ca) (.slice (some ⟨y.gi,0,none⟩) y.b.ic.length y.ci) (.slice (some ⟨y.gb,0,none⟩) y.b.bs.length y.cb) (.slice (some ⟨y.gl,0,none⟩) y.b.ls.length y.cl) (.slice (some ⟨y.gt,0,none⟩) y.b.ts.length y.ct) (.int .i64 y.b.lot))∧Hid (Ow wr w.heap.size y)∧Hid (Ints.Own wr w.heap.size gT xs.length cT xs)∧Hid (Own3 67 wr w.heap.size (w.heap.size+2) 0 0 [])) (fun _ i _=>xs.length-(intOf i).toNat)
 case atStart=>exact⟨0,0,z0,rfl,rfl,by omega,by omega,by omega,zh (by rw[zu HZ];exact(zu TT).1),zh (fun b' g c h=>by rw[zu HZ] at h;exact h),S4,V4,O4,OT4,N4⟩
 case round=>
  clear S4 V4 O4 OT4 N4 HZ
  obtain⟨acc,k,y,rfl,rfl,hk,ac1,ac2,HY,HS,SS,VV,OO,OT,NN⟩:=hrel
  by_cases t:k<xs.length
  ·obtain⟨no,hno⟩:∃no,Hid (xs.getD k 0=no):=⟨_,rfl⟩
   have NO:=zh (show NoOk no from by
    rw[←zu hno]
    refine open_ok (zu TT).1 (lo:=lo) (hi:=hi) (fun p hp=>hp) _ ?_
    rw[←zu XS]
    exact SNetL.mem_nos t)
   have DN:=zh (drop_nos t)
   rw[zu hno] at DN
   have TS:=zh (show SSettle.ToldS y.b no fk from⟨zu HY,zu NO,(zu TT).2.2.2⟩)
   have v1:=(zu VV).lt
   have o1:=(zu OT).lt
   have s1:=(zu SS).v.lt
   go_wp2_with fail
   go_region_held3 (fun w'=>w'.cell? ⟨go,0,none⟩=some (.slice (some ⟨y.ga,0,none⟩) y.b.ac.length y.ca)∧w'.cell? ⟨go,1,none⟩=some (.slice (some ⟨y.gi,0,none⟩) y.b.ic.length y.ci)∧w'.cell? ⟨go,2,none⟩=some (.slice (some ⟨y.gb,0,none⟩) y.b.bs.length y.cb)∧w'.cell? ⟨go,3,none⟩=some (.slice (some ⟨y.gl,0,none⟩) y.b.ls.length y.cl)∧w'.cell? ⟨go,4,none⟩=some (.slice (some ⟨y.gt,0,none⟩) y.b.ts.length y.ct)∧w'.cell? ⟨go,5,none⟩=some (.int .i64 y.b.lot)∧w'.cell? ⟨gT,k,none⟩=some (.int .i64 no)) (first|exact hold7 (zu VV) (zu OT) t (zu hno) (by repeat(first|with_reducible exact zu cA|with_reducible exact Below.refl _ _|with_reducible refine Below.drew ?_|(with_reducible refine Below.alloc ?_ ?hle _;case hle=>first|exact Nat.le_refl _|omega|(simp;omega)|simp)|(with_reducible refine Ans.six ?_ ?hle _ _ _ _ _ _;case hle=>first|exact Nat.le_refl _|omega|(simp;omega)))))
    (first|(go_at_call 54;refine(SSettle.sSettle _ y no fk (((zu OO).rd (ok_small (zu HY))).below (by repeat(first|with_reducible exact zu cA|with_reducible exact Below.refl _ _|with_reducible refine Below.drew ?_|(with_reducible refine Below.alloc ?_ ?hle _;case hle=>first|exact Nat.le_refl _|omega|(simp;omega)|simp)|(with_reducible refine Ans.six ?_ ?hle _ _ _ _ _ _;case hle=>first|exact Nat.le_refl _|omega|(simp;omega)))))).mono ?_;rintro e u1 hans;obtain⟨z,g1,cd,hP,rfl,oz,bb⟩:=ansM_of hans (zu TS);have cA:=zh (show Below wr.heap.size wr u1 from Below.trans (by repeat(first|with_reducible exact zu cA|with_reducible exact Below.refl _ _|with_reducible refine Below.drew ?_|(with_reducible refine Below.alloc ?_ ?hle _;case hle=>first|exact Nat.le_refl _|omega|(simp;omega)|simp)|(with_reducible refine Ans.six ?_ ?hle _ _ _ _ _ _;case hle=>first|exact Nat.le_refl _|omega|(simp;omega)))) (bb.mono (by simp)));have sA:=(zu cA).size;(first|(have V0:=zh (Box.below (Box.made (w:=wr.drew) (base:=w.heap.size) (g:=wr.heap.size) (.slice none 0 0) (.slice none 0 0) (.slice none 0 0) (.slice none 0 0) (.slice none 0 0) (.int .i64 0) (by first|omega|(simp;omega)) rfl) bb (by simp));have k0:=(zu V0).c0;have k1:=(zu V0).c1;have k2:=(zu V0).c2;have k3:=(zu V0).c3;have k4:=(zu V0).c4;have k5:=(zu V0).c5;have x0:=(zu V0).free 0;have x1:=(zu V0).free 1;have x2:=(zu V0).free 2;have x3:=(zu V0).free 3;have x4:=(zu V0).free 4;have x5:=(zu V0).free 5)|skip);have HP:=zh hP;have OZ:=zh (oz.rebase (base':=w.heap.size) (by simp;omega));clear hans hP oz bb))
   ·have S6:=zh ((zu SS).step (zu cA))
    have V6:=zh ((zu VV).below (zu cA) v1.2)
    have T6:=zh ((zu OT).below (zu cA) o1.2)
    have N6:=zh ((zu NN).below (zu cA) (zu NN).lt.2)
    have nn:=(zu NN).lt.2
    refine SSettle.to_wc (fun W=>SR w W x∧Box W w.heap.size go (.slice (some ⟨y.ga,0,none⟩) y.b.ac.length y.ca) (.slice (some ⟨y.gi,0,none⟩) y.b.ic.length y.ci) (.slice (some ⟨y.gb,0,none⟩) y.b.bs.length y.cb) (.slice (some ⟨y.gl,0,none⟩) y.b.ls.length y.cl) (.slice (some ⟨y.gt,0,none⟩) y.b.ts.length y.ct) (.int .i64 y.b.lot)∧Box W w.heap.size u1.heap.size (.slice (some ⟨z.ga,0,none⟩) z.b.ac.length z.ca) (.slice (some ⟨z.gi,0,none⟩) z.b.ic.length z.ci) (.slice (some ⟨z.gb,0,none⟩) z.b.bs.length z.cb) (.slice (some ⟨z.gl,0,none⟩) z.b.ls.length z.cl) (.slice (some ⟨z.gt,0,none⟩) z.b.ts.length z.ct) (.int .i64 z.b.lot)∧Ow W w.heap.size z∧Ints.Own W w.heap.size gT xs.length cT xs∧Own3 67 W w.heap.size (w.heap.size+2) 0 0 []) ?_ ?_
    ·exact⟨(zu S6).step (one_more u1 _),World.ownsRow.alloc (zu V6) _,Box.made _ _ _ _ _ _ (zu S6).b.size rfl,ow_alloc (zu OZ) _,Shorts.own_alloc (zu T6) _,(zu N6).alloc _⟩
    rintro W ⟨q1,q2,q3,q4,q5,q6⟩
    have S7:=zh q1
    have V7:=zh q2
    have X7:=zh q3
    have Z7:=zh q4
    have T7:=zh q5
    have N7:=zh q6
    clear q1 q2 q3 q4 q5 q6 S6 V6 T6 N6 SS VV OT NN OO OZ
    have l6:w.heap.size+1≠u1.heap.size:=by omega
    have l7:w.heap.size≠u1.heap.size:=by omega
    have l8:go≠u1.heap.size:=by omega
    by_cases z1:cd=0
    ·subst z1
     have GA:=Net.gain_amt (zu HY) (zu HP)
     unfold Amt at GA
     have HY':=zh (Keep.ok_settle (zu HY) (zu HP))
     have HS':=zh (show ∀b' g c,Net.Steps fk (xs.drop (k+1)) z.b (acc+g1) b' g c→Net.Steps fk xs x.b 0 b' g c from fun b' g c h=>(zu HS) b' g c (by rw[zu DN];exact⟨z.b,g1,0,zu HP,.inr ⟨rfl,h⟩⟩))
     have F7:=zh (off_box (zu Z7) (zu V7))
     obtain⟨a0,a1,a2,a3,a4,a5,af0,af1,af2,af3,af4,af5⟩:=Box.all (zu V7)
     obtain⟨b0,b1,b2,b3,b4,b5,bf0,bf1,bf2,bf3,bf4,bf5⟩:=Box.all (zu X7)
     have G7:=zh (box_six (zu V7) (.slice (some ⟨z.ga,0,none⟩) z.b.ac.length z.ca) (.slice (some ⟨z.gi,0,none⟩) z.b.ic.length z.ci) (.slice (some ⟨z.gb,0,none⟩) z.b.bs.length z.cb) (.slice (some ⟨z.gl,0,none⟩) z.b.ls.length z.cl) (.slice (some ⟨z.gt,0,none⟩) z.b.ts.length z.ct) (.int .i64 z.b.lot))
     go_wp2
     go_roundw
     case rel=>exact⟨acc+g1,k+1,z,by go_num,by go_num,by omega,by omega,by omega,HY',HS',zh (SIssue.SR.grown (zu HR) (zu S7) (zu G7).2 (by omega)),zh (zu G7).1,zh (ow_six (zu Z7) (zu F7) _ _ _ _ _ _),zh ((zu T7).kept (zu G7).2 (fun e=>by injection e;omega)),zh ((zu N7).kept (zu G7).2 (fun e=>by injection e;omega))⟩
     case measure=>simp[intOf];omega
    ·have z1c:(cd !=0)=true:=ne_true z1
     have I8:=zh (show IsNet x.b lo hi fk x.b [] 0 cd from by
      refine .inr ⟨zu NE,y.b,0,cd,?_,.inl ⟨z1,rfl,rfl,rfl,rfl⟩⟩
      rw[←zu XS]
      refine(zu HS) y.b 0 cd ?_
      rw[zu DN]
      exact⟨z.b,g1,cd,zu HP,.inl ⟨z1,rfl,rfl,rfl⟩⟩)
     clear z1
     obtain⟨c0,c1,c2,c3,c4,c5⟩:=(zu S7).c
     obtain⟨r0,r1,r2,r3,r4,r5,f0,f1,f2,f3,f4,f5⟩:=Box.all ((zu S7).v)
     go_wp2_with fail
     refine(SCopy.sCopy _ x (zu S7).r).mono ?_
     rintro e w8 ⟨zc,hzc,rfl,oz,bb⟩
     have S8:=zh ((zu S7).step bb)
     have N8:=zh ((zu N7).below bb (zu N7).lt.2)
     have OZ:=zh (oz.rebase (zu S7).b.size)
     have LZ:=zh (ow_lo oz)
     have zl:=(zu S7).v.lt.2
     have IZ:=zh (show IsNet x.b lo hi fk zc.b [] 0 cd from by rw[hzc];exact(zu I8))
     clear bb oz hzc
     clear c0 c1 c2 c3 c4 c5 r0 r1 r2 r3 r4 r5 f0 f1 f2 f3 f4 f5
     obtain⟨c0,c1,c2,c3,c4,c5⟩:=(zu S8).c
     obtain⟨r0,r1,r2,r3,r4,r5,f0,f1,f2,f3,f4,f5⟩:=Box.all ((zu S8).v)
     go_wp2
     refine bodyPost_ret (v:= .tuple #[.agg #[.slice (some ⟨zc.ga,0,none⟩) zc.b.ac.length zc.ca,.slice (some ⟨zc.gi,0,none⟩) zc.b.ic.length zc.ci,.slice (some ⟨zc.gb,0,none⟩) zc.b.bs.length zc.cb,.slice (some ⟨zc.gl,0,none⟩) zc.b.ls.length zc.cl,.slice (some ⟨zc.gt,0,none⟩) zc.b.ts.length zc.ct,.int .i64 zc.b.lot],.slice (some ⟨w.heap.size+2,0,none⟩) 0 0,.int .i64 0,.int .i64 cd]) (by simp[results,Tryz.results17,go_sem,r0,r1,r2,r3,r4,r5]) rfl (.inr ⟨zu TT,zc,[],0,cd,w.heap.size+2,0,zu IZ,by simp,rfl,?_,?_,?_⟩)
     ·exact ow_six (zu OZ) (off_lo (zu LZ) zl) _ _ _ _ _ _
     ·exact(zu N8).kept (box_six (zu S8).v _ _ _ _ _ _).2 (fun e=>by injection e;omega)
     ·exact six (zu S8).b (by omega) _ _ _ _ _ _
   ·clear k0 k1 k2 k3 k4 k5 x0 x1 x2 x3 x4 x5
    have S6:=zh ((zu SS).step (zu cA))
    have V6:=zh ((zu VV).below (zu cA) v1.2)
    have T6:=zh ((zu OT).below (zu cA) o1.2)
    have N6:=zh ((zu NN).below (zu cA) (zu NN).lt.2)
    have nn:=(zu NN).lt.2
    refine SSettle.to_wc (fun W=>SR w W x∧Box W w.heap.size go (.slice (some ⟨y.ga,0,none⟩) y.b.ac.length y.ca) (.slice (some ⟨y.gi,0,none⟩) y.b.ic.length y.ci) (.slice (some ⟨y.gb,0,none⟩) y.b.bs.length y.cb) (.slice (some ⟨y.gl,0,none⟩) y.b.ls.length y.cl) (.slice (some ⟨y.gt,0,none⟩) y.b.ts.length y.ct) (.int .i64 y.b.lot)∧Box W w.heap.size wr.heap.size (.slice (some ⟨z.ga,0,none⟩) z.b.ac.length z.ca) (.slice (some ⟨z.gi,0,none⟩) z.b.ic.length z.ci) (.slice (some ⟨z.gb,0,none⟩) z.b.bs.length z.cb) (.slice (some ⟨z.gl,0,none⟩) z.b.ls.length z.cl) (.slice (some ⟨z.gt,0,none⟩) z.b.ts.length z.ct) (.int .i64 z.b.lot)∧Ow W w.heap.size z∧Ints.Own W w.heap.size gT xs.length cT xs∧Own3 67 W w.heap.size (w.heap.size+2) 0 0 []) ?_ ?_
    ·exact⟨SIssue.SR.grown (zu HR) (zu S6) (box_six (zu V0) _ _ _ _ _ _).2 (by omega),(zu V6).kept (box_six (zu V0) _ _ _ _ _ _).2 (fun e=>by injection e;omega),(box_six (zu V0) _ _ _ _ _ _).1,ow_six (zu OZ) (off_box (zu OZ) (zu V0)) _ _ _ _ _ _,(zu T6).kept (box_six (zu V0) _ _ _ _ _ _).2 (fun e=>by injection e;omega),(zu N6).kept (box_six (zu V0) _ _ _ _ _ _).2 (fun e=>by injection e;omega)⟩
    rintro W ⟨q1,q2,q3,q4,q5,q6⟩
    have S7:=zh q1
    have V7:=zh q2
    have X7:=zh q3
    have Z7:=zh q4
    have T7:=zh q5
    have N7:=zh q6
    clear q1 q2 q3 q4 q5 q6 S6 V6 T6 N6 SS VV OT NN OO OZ
    have l6:w.heap.size+1≠wr.heap.size:=by omega
    have l7:w.heap.size≠wr.heap.size:=by omega
    have l8:go≠wr.heap.size:=by omega
    by_cases z1:cd=0
    ·subst z1
     have GA:=Net.gain_amt (zu HY) (zu HP)
     unfold Amt at GA
     have HY':=zh (Keep.ok_settle (zu HY) (zu HP))
     have HS':=zh (show ∀b' g c,Net.Steps fk (xs.drop (k+1)) z.b (acc+g1) b' g c→Net.Steps fk xs x.b 0 b' g c from fun b' g c h=>(zu HS) b' g c (by rw[zu DN];exact⟨z.b,g1,0,zu HP,.inr ⟨rfl,h⟩⟩))
     have F7:=zh (off_box (zu Z7) (zu V7))
     obtain⟨a0,a1,a2,a3,a4,a5,af0,af1,af2,af3,af4,af5⟩:=Box.all (zu V7)
     obtain⟨b0,b1,b2,b3,b4,b5,bf0,bf1,bf2,bf3,bf4,bf5⟩:=Box.all (zu X7)
     have G7:=zh (box_six (zu V7) (.slice (some ⟨z.ga,0,none⟩) z.b.ac.length z.ca) (.slice (some ⟨z.gi,0,none⟩) z.b.ic.length z.ci) (.slice (some ⟨z.gb,0,none⟩) z.b.bs.length z.cb) (.slice (some ⟨z.gl,0,none⟩) z.b.ls.length z.cl) (.slice (some ⟨z.gt,0,none⟩) z.b.ts.length z.ct) (.int .i64 z.b.lot))
     go_wp2
     go_roundw
     case rel=>exact⟨acc+g1,k+1,z,by go_num,by go_num,by omega,by omega,by omega,HY',HS',zh (SIssue.SR.grown (zu HR) (zu S7) (zu G7).2 (by omega)),zh (zu G7).1,zh (ow_six (zu Z7) (zu F7) _ _ _ _ _ _),zh ((zu T7).kept (zu G7).2 (fun e=>by injection e;omega)),zh ((zu N7).kept (zu G7).2 (fun e=>by injection e;omega))⟩
     case measure=>simp[intOf];omega
    ·have z1c:(cd !=0)=true:=ne_true z1
     have I8:=zh (show IsNet x.b lo hi fk x.b [] 0 cd from by
      refine .inr ⟨zu NE,y.b,0,cd,?_,.inl ⟨z1,rfl,rfl,rfl,rfl⟩⟩
      rw[←zu XS]
      refine(zu HS) y.b 0 cd ?_
      rw[zu DN]
      exact⟨z.b,g1,cd,zu HP,.inl ⟨z1,rfl,rfl,rfl⟩⟩)
     clear z1
     obtain⟨c0,c1,c2,c3,c4,c5⟩:=(zu S7).c
     obtain⟨r0,r1,r2,r3,r4,r5,f0,f1,f2,f3,f4,f5⟩:=Box.all ((zu S7).v)
     go_wp2_with fail
     refine(SCopy.sCopy _ x (zu S7).r).mono ?_
     rintro e w8 ⟨zc,hzc,rfl,oz,bb⟩
     have S8:=zh ((zu S7).step bb)
     have N8:=zh ((zu N7).below bb (zu N7).lt.2)
     have OZ:=zh (oz.rebase (zu S7).b.size)
     have LZ:=zh (ow_lo oz)
     have zl:=(zu S7).v.lt.2
     have IZ:=zh (show IsNet x.b lo hi fk zc.b [] 0 cd from by rw[hzc];exact(zu I8))
     clear bb oz hzc
     clear c0 c1 c2 c3 c4 c5 r0 r1 r2 r3 r4 r5 f0 f1 f2 f3 f4 f5
     obtain⟨c0,c1,c2,c3,c4,c5⟩:=(zu S8).c
     obtain⟨r0,r1,r2,r3,r4,r5,f0,f1,f2,f3,f4,f5⟩:=Box.all ((zu S8).v)
     go_wp2
     refine bodyPost_ret (v:= .tuple #[.agg #[.slice (some ⟨zc.ga,0,none⟩) zc.b.ac.length zc.ca,.slice (some ⟨zc.gi,0,none⟩) zc.b.ic.length zc.ci,.slice (some ⟨zc.gb,0,none⟩) zc.b.bs.length zc.cb,.slice (some ⟨zc.gl,0,none⟩) zc.b.ls.length zc.cl,.slice (some ⟨zc.gt,0,none⟩) zc.b.ts.length zc.ct,.int .i64 zc.b.lot],.slice (some ⟨w.heap.size+2,0,none⟩) 0 0,.int .i64 0,.int .i64 cd]) (by simp[results,Tryz.results17,go_sem,r0,r1,r2,r3,r4,r5]) rfl (.inr ⟨zu TT,zc,[],0,cd,w.heap.size+2,0,zu IZ,by simp,rfl,?_,?_,?_⟩)
     ·exact ow_six (zu OZ) (off_lo (zu LZ) zl) _ _ _ _ _ _
     ·exact(zu N8).kept (box_six (zu S8).v _ _ _ _ _ _).2 (fun e=>by injection e;omega)
     ·exact six (zu S8).b (by omega) _ _ _ _ _ _
  ·obtain rfl:k=xs.length:=by omega
   have ST:=zh (show Net.Steps fk (openT lo hi x.b.ts) x.b 0 y.b acc 0 from by
    have:=(zu HS) y.b acc 0 (by rw[List.drop_length];exact⟨rfl,rfl,rfl⟩)
    rw[←zu XS];exact this)
   have cap:=own_cap (zu OT)
   have o1:=(zu OT).lt
   obtain⟨c0,c1,c2,c3,c4,c5⟩:=(zu SS).c
   go_wp2_with fail
   refine(SNetL.sNetLegs _ x gT cT xs (zu SS).r n20 cap.1 (by have:=cap.2;unfold maxLen at this;omega) o1.2 (zu OT).at).mono ?_
   rintro e w7 ⟨qs,ok,gq,cq,hL,ql,rfl,oq,bb⟩
   have S7:=zh ((zu SS).step bb)
   have V7:=zh ((zu VV).below bb (zu VV).lt.2)
   have O7:=zh ((zu OO).below bb (Nat.le_refl _))
   have N7:=zh ((zu NN).below bb (zu NN).lt.2)
   have Q7:=zh oq
   have q7:w.heap.size+2<gq:=by have:=oq.lt.1;have:=(zu NN).lt.2;omega
   have HL:=zh (show IsNetL x.b (openT lo hi x.b.ts) qs ok from by rw[←zu XS];exact hL)
   have v7:=(zu VV).lt
   clear bb oq hL SS VV OO NN c0 c1 c2 c3 c4 c5
   cases ok
   ·have I8:=zh (show IsNet x.b lo hi fk x.b [] 0 8 from .inr ⟨zu NE,y.b,acc,0,zu ST,.inr ⟨rfl,qs,false,zu HL,.inl ⟨fun h=>Bool.noConfusion h.1,rfl,rfl,rfl,rfl⟩⟩⟩)
    obtain⟨c0,c1,c2,c3,c4,c5⟩:=(zu S7).c
    obtain⟨r0,r1,r2,r3,r4,r5,f0,f1,f2,f3,f4,f5⟩:=Box.all ((zu S7).v)
    go_wp2_with fail
    refine(SCopy.sCopy _ x (zu S7).r).mono ?_
    rintro e w8 ⟨zc,hzc,rfl,oz,bb⟩
    have S8:=zh ((zu S7).step bb)
    have N8:=zh ((zu N7).below bb (zu N7).lt.2)
    have OZ:=zh (oz.rebase (zu S7).b.size)
    have LZ:=zh (ow_lo oz)
    have zl:=(zu S7).v.lt.2
    have IZ:=zh (show IsNet x.b lo hi fk zc.b [] 0 8 from by rw[hzc];exact(zu I8))
    clear bb oz hzc
    clear c0 c1 c2 c3 c4 c5 r0 r1 r2 r3 r4 r5 f0 f1 f2 f3 f4 f5
    obtain⟨c0,c1,c2,c3,c4,c5⟩:=(zu S8).c
    obtain⟨r0,r1,r2,r3,r4,r5,f0,f1,f2,f3,f4,f5⟩:=Box.all ((zu S8).v)
    go_wp2
    refine bodyPost_ret (v:= .tuple #[.agg #[.slice (some ⟨zc.ga,0,none⟩) zc.b.ac.length zc.ca,.slice (some ⟨zc.gi,0,none⟩) zc.b.ic.length zc.ci,.slice (some ⟨zc.gb,0,none⟩) zc.b.bs.length zc.cb,.slice (some ⟨zc.gl,0,none⟩) zc.b.ls.length zc.cl,.slice (some ⟨zc.gt,0,none⟩) zc.b.ts.length zc.ct,.int .i64 zc.b.lot],.slice (some ⟨w.heap.size+2,0,none⟩) 0 0,.int .i64 0,.int .i64 8]) (by simp[results,Tryz.results17,go_sem,r0,r1,r2,r3,r4,r5]) rfl (.inr ⟨zu TT,zc,[],0,8,w.heap.size+2,0,zu IZ,by simp,rfl,?_,?_,?_⟩)
    ·exact ow_six (zu OZ) (off_lo (zu LZ) zl) _ _ _ _ _ _
    ·exact(zu N8).kept (box_six (zu S8).v _ _ _ _ _ _).2 (fun e=>by injection e;omega)
    ·exact six (zu S8).b (by omega) _ _ _ _ _ _
   obtain⟨b1,h1⟩:=Bals.says_of (Amt acc)
   have H1:=zh h1
   clear h1
   go_wp2_with fail
   refine(SOk3.sAmt acc b1 _ (zu H1)).mono ?_
   rintro e w9 ⟨rfl,rfl⟩
   cases b1
   ·have I8:=zh (show IsNet x.b lo hi fk x.b [] 0 8 from .inr ⟨zu NE,y.b,acc,0,zu ST,.inr ⟨rfl,qs,true,zu HL,.inl ⟨fun h=>(zu H1).no h.2,rfl,rfl,rfl,rfl⟩⟩⟩)
    obtain⟨c0,c1,c2,c3,c4,c5⟩:=(zu S7).c
    obtain⟨r0,r1,r2,r3,r4,r5,f0,f1,f2,f3,f4,f5⟩:=Box.all ((zu S7).v)
    go_wp2_with fail
    refine(SCopy.sCopy _ x (zu S7).r).mono ?_
    rintro e w8 ⟨zc,hzc,rfl,oz,bb⟩
    have S8:=zh ((zu S7).step bb)
    have N8:=zh ((zu N7).below bb (zu N7).lt.2)
    have OZ:=zh (oz.rebase (zu S7).b.size)
    have LZ:=zh (ow_lo oz)
    have zl:=(zu S7).v.lt.2
    have IZ:=zh (show IsNet x.b lo hi fk zc.b [] 0 8 from by rw[hzc];exact(zu I8))
    clear bb oz hzc
    clear c0 c1 c2 c3 c4 c5 r0 r1 r2 r3 r4 r5 f0 f1 f2 f3 f4 f5
    obtain⟨c0,c1,c2,c3,c4,c5⟩:=(zu S8).c
    obtain⟨r0,r1,r2,r3,r4,r5,f0,f1,f2,f3,f4,f5⟩:=Box.all ((zu S8).v)
    go_wp2
    refine bodyPost_ret (v:= .tuple #[.agg #[.slice (some ⟨zc.ga,0,none⟩) zc.b.ac.length zc.ca,.slice (some ⟨zc.gi,0,none⟩) zc.b.ic.length zc.ci,.slice (some ⟨zc.gb,0,none⟩) zc.b.bs.length zc.cb,.slice (some ⟨zc.gl,0,none⟩) zc.b.ls.length zc.cl,.slice (some ⟨zc.gt,0,none⟩) zc.b.ts.length zc.ct,.int .i64 zc.b.lot],.slice (some ⟨w.heap.size+2,0,none⟩) 0 0,.int .i64 0,.int .i64 8]) (by simp[results,Tryz.results17,go_sem,r0,r1,r2,r3,r4,r5]) rfl (.inr ⟨zu TT,zc,[],0,8,w.heap.size+2,0,zu IZ,by simp,rfl,?_,?_,?_⟩)
    ·exact ow_six (zu OZ) (off_lo (zu LZ) zl) _ _ _ _ _ _
    ·exact(zu N8).kept (box_six (zu S8).v _ _ _ _ _ _).2 (fun e=>by injection e;omega)
    ·exact six (zu S8).b (by omega) _ _ _ _ _ _
   have IZ:=zh (show IsNet x.b lo hi fk y.b qs acc 0 from .inr ⟨zu NE,y.b,acc,0,zu ST,.inr ⟨rfl,qs,true,zu HL,.inr ⟨⟨rfl,(zu H1).yes⟩,rfl,rfl,rfl,rfl⟩⟩⟩)
   have F7:=zh (off_box (zu O7) (zu S7).v)
   have l6:w.heap.size+1≠go:=by have:=(zu S7).v.lt;omega
   obtain⟨c0,c1,c2,c3,c4,c5⟩:=(zu S7).c
   obtain⟨r0,r1,r2,r3,r4,r5,f0,f1,f2,f3,f4,f5⟩:=Box.all ((zu S7).v)
   obtain⟨a0,a1,a2,a3,a4,a5,af0,af1,af2,af3,af4,af5⟩:=Box.all (zu V7)
   go_wp2
   refine to_wb (fun W=>Box W w.heap.size (w.heap.size+1) (.slice (some ⟨y.ga,0,none⟩) y.b.ac.length y.ca) (.slice (some ⟨y.gi,0,none⟩) y.b.ic.length y.ci) (.slice (some ⟨y.gb,0,none⟩) y.b.bs.length y.cb) (.slice (some ⟨y.gl,0,none⟩) y.b.ls.length y.cl) (.slice (some ⟨y.gt,0,none⟩) y.b.ts.length y.ct) (.int .i64 y.b.lot)∧Below w.heap.size w W∧Ow W w.heap.size y∧Own3 67 W w.heap.size gq qs.length cq qs) ?_ ?_
   ·exact⟨(box_six (zu S7).v _ _ _ _ _ _).1,six (zu S7).b (by omega) _ _ _ _ _ _,ow_six (zu O7) (zu F7) _ _ _ _ _ _,(Triples.Own3.rebase (zu Q7) (by omega)).kept (box_six (zu S7).v _ _ _ _ _ _).2 (fun e=>by injection e;omega)⟩
   rintro W ⟨X,B,OW,OQ⟩
   have p0:=X.c0
   have p1:=X.c1
   have p2:=X.c2
   have p3:=X.c3
   have p4:=X.c4
   have p5:=X.c5
   exact bodyPost_ret (v:= .tuple #[.agg #[.slice (some ⟨y.ga,0,none⟩) y.b.ac.length y.ca,.slice (some ⟨y.gi,0,none⟩) y.b.ic.length y.ci,.slice (some ⟨y.gb,0,none⟩) y.b.bs.length y.cb,.slice (some ⟨y.gl,0,none⟩) y.b.ls.length y.cl,.slice (some ⟨y.gt,0,none⟩) y.b.ts.length y.ct,.int .i64 y.b.lot],.slice (some ⟨gq,0,none⟩) qs.length cq,.int .i64 acc,.int .i64 0]) (by simp[results,Tryz.results17,go_sem,p0,p1,p2,p3,p4,p5]) rfl (.inr ⟨zu TT,y,qs,acc,0,gq,cq,zu IZ,ql,rfl,OW,OQ,B⟩)
end SNet
namespace SortN
open Bals Triples Cmp
open Go.Sort (putRow putCells mapBlock onCells Holds SWO PermIn SortedIn grow flatK get_flatK size_flatK HoldsK)
open Sort3 (enc cf lt_iff lt_not swo flat_flatK sw_same sw_below put_take)
theorem own_sorted(w:World)(base blk n cap q:Nat)(d:Array T3)(os:Array Obj)(ps:List T3)(hd:d.size=n)(h:Own3 67 w base blk n cap ps):
  Own3 67 (sortWorldK enc 3 w blk 0 q d os) base blk n cap d.toList:=by
 refine⟨by rw[flat3_len];simp[hd],?_⟩
 rcases h.2 with⟨z,_⟩|⟨g',c,cur,z,hb,hc,h1,h2,h3,h4⟩
 ·simp at z
 ·obtain⟨rfl,rfl⟩:blk=g'∧cap=c:=by simpa using z
  refine Or.inr ⟨blk,cap,_,rfl,hb,sw_same w blk q d os cur 67 (0,0) hc,h1,h2,by simpa[putCells] using h3,?_⟩
  have:=put_take (flatK enc 3 d) cur (by rw[size_flatK,hd,h3];exact Nat.mul_le_mul_right 3 h1)
  rw[size_flatK,hd,flat_flatK] at this
  exact this
theorem holds_of(w:World)(base blk n cap:Nat)(ps:List T3)(h:Own3 67 w base blk n cap ps):HoldsK enc 3 w blk 0 ps.toArray:=by
 intro j hj
 have hl:=h.len
 have hj':j<n*3:=by simpa[hl] using hj
 refine⟨?_,by simpa using h.free (0+j)⟩
 rw[Nat.zero_add]
 have e:=World.ownsRow.cellAt h j hj'
 rw[e]
 have f:=flat_flatK ps.toArray
 have g:flat3 ps=(flatK enc 3 ps.toArray).toList:=by rw[f]
 rw[g,Array.getElem?_toList,Array.getElem?_eq_getElem hj,getElem!_pos _ j hj]
 rfl
theorem closure(x y:T3)(w:World):Calls Tryz.prog 136 #[.agg #[.int .i64 x.1,.int .i64 x.2.1,.int .i64 x.2.2],.agg #[.int .i64 y.1,.int .i64 y.2.1,.int .i64 y.2.2]] w fun e w'=>e= .returned (.int .i64 (cf x y))∧∃q os,w'=grow (w.drewN q) os:=by
 obtain⟨a,i,p⟩:=x
 obtain⟨b,j,r⟩:=y
 show Calls _ _ _ _ fun e w'=>e= .returned (.int .i64 (orI (cmpI a b) (cmpI i j)))∧_
 go_enter Tryz.func136,Tryz.ntmps136
 go_wp2_with fail
 have hu:∃os,(w.alloc (.cells #[.int .i64 a,.int .i64 i,.int .i64 p] 67)).alloc (.cells #[.int .i64 b,.int .i64 j,.int .i64 r] 67)=grow w os:=⟨_,by rw[Go.Sort.alloc_eq_grow,Go.Sort.alloc_eq_grow,Go.Sort.grow_grow]⟩
 have c0:((w.alloc (.cells #[.int .i64 a,.int .i64 i,.int .i64 p] 67)).alloc (.cells #[.int .i64 b,.int .i64 j,.int .i64 r] 67)).cell? ⟨w.heap.size,0,none⟩=some (.int .i64 a):=by simp
 have c1:((w.alloc (.cells #[.int .i64 a,.int .i64 i,.int .i64 p] 67)).alloc (.cells #[.int .i64 b,.int .i64 j,.int .i64 r] 67)).cell? ⟨w.heap.size,1,none⟩=some (.int .i64 i):=by simp
 have c2:((w.alloc (.cells #[.int .i64 a,.int .i64 i,.int .i64 p] 67)).alloc (.cells #[.int .i64 b,.int .i64 j,.int .i64 r] 67)).cell? ⟨w.heap.size+1,0,none⟩=some (.int .i64 b):=by simp
 have c3:((w.alloc (.cells #[.int .i64 a,.int .i64 i,.int .i64 p] 67)).alloc (.cells #[.int .i64 b,.int .i64 j,.int .i64 r] 67)).cell? ⟨w.heap.size+1,1,none⟩=some (.int .i64 j):=by simp
 have HU:=zh hu
 clear hu
 generalize (w.alloc (.cells #[.int .i64 a,.int .i64 i,.int .i64 p] 67)).alloc (.cells #[.int .i64 b,.int .i64 j,.int .i64 r] 67)=u at *
 generalize w.heap.size+1=h1 at *
 generalize w.heap.size=h0 at *
 go_region_held3 (fun w'=>w'.cell? ⟨h0,0,none⟩=some (.int .i64 a)∧w'.cell? ⟨h0,1,none⟩=some (.int .i64 i)∧w'.cell? ⟨h1,0,none⟩=some (.int .i64 b)∧w'.cell? ⟨h1,1,none⟩=some (.int .i64 j)) (go_keep)
  (first|(go_at_call 130;refine(compare1 _ _ _).mono ?_;rintro e w1 ⟨rfl,rfl⟩)|(go_at_call 137;refine(orL u.heap.size (cmpI a b) (cmpI i j) _ ?_ ?_).mono ?_;(simp);(simp);rintro e w1 ⟨rfl,rfl⟩))
 all_goals(go_wp2;go_ret)
 all_goals(obtain⟨os,rfl⟩:=zu HU;exact⟨rfl,1,_,by rw[Go.Sort.alloc_eq_grow];exact Go.Sort.grow_grow (w.drewN 1) _ _⟩)
theorem cmpLays(blk size:Nat)(w:World):CmpLays Tryz.prog 136 #[] enc 3 cf blk 0 size w:=fun _ _ _ _ x y=>closure x y _
theorem sorts(w:World)(base blk n cap:Nat)(ps:List T3)(hn:n≤1048576)(ho:Own3 67 w base blk n cap ps):
  Calls Tryz.prog 135 #[.slice (some ⟨blk,0,none⟩) n cap,.func (.func 136) #[] #[]] w fun e w'=>
   e= .returned (.tuple #[])∧∃qs,qs.Perm ps∧qs.Pairwise (fun p q=>¬Bef q p)∧Own3 67 w' base blk n cap qs∧Below blk w w':=by
 have hl:=ho.len
 have hs:ps.toArray.size=n:=by simpa using hl
 have eg:∀args w,(callFunc 136 args).run Tryz.prog w= .ok (.enter 136 args) w:=enters_of Tryz.func136 (by kernel_rfl) rfl
 have hcon:=AnyQ.slices_SortFunc Tryz.sortN 3 Tryz.isAgg67 Tryz.sizeOf67 enc (fun _=>rfl) (fun x v hv=>by simp[enc] at hv;rcases hv with rfl|rfl|rfl<;>rfl) cf swo 136 #[] blk 0 cap ps.toArray w eg (cmpLays blk _ w) (holds_of w base blk n cap ps ho) ho.lt.2 (by rw[hs];omega)
 change Calls Tryz.prog 135 _ _ _ at hcon
 rw[hs] at hcon
 refine hcon.mono ?_
 rintro e w' ⟨rfl,d',q,os,hp,hso,rfl⟩
 have hd:d'.size=n:=hp.1.trans hs
 refine⟨rfl,d'.toList,?_,?_,own_sorted w base blk n cap q d' os ps hd ho,sw_below w blk q d' os ho.lt.2⟩
 ·have:=hp.2.2
  rw[Array.extract_eq_self_of_le (by omega),Array.extract_eq_self_of_le (by omega)] at this
  simpa using this
 ·rw[List.pairwise_iff_getElem]
  intro i j hi hj hij
  have hj':j<d'.size:=by simpa using hj
  have:=hso i j (Nat.zero_le _) hij (by omega)
  rw[getElem!_pos d' j hj',getElem!_pos d' i (by omega),lt_not] at this
  simpa using this
end SortN
namespace TabN
open Bals Triples
open Go.Maps (Keyed)
open Tab (laidOut zero Wf wf_no wf_amt D0 below_grown isMap_of)
theorem row:(165:TypeId)<Tryz.prog.types.size:=of_decide_eq_true (by kernel_rfl)
theorem cells:Tryz.prog.cellsOf 165=2:=by kernel_rfl
theorem wide:(match Tryz.prog.underlying 165 with|some (.array _ _)|some (.struct _)=>true|_=>false)=true:=by rw[Tryz.underlying165]
theorem deep:Tryz.prog.keyTypeAt (Tryz.prog.types.size+1) 165=true:=by kernel_rfl
theorem law:Keyed Tryz.prog 165:=Keyed.of_law (deep_law_laid laidOut (m:=2) (by omega) row (by kernel_rfl) wide)
theorem formed{c0 c1:Value}:(Value.agg #[c0,c1]).formed Tryz.prog 165=true:=by simp[Value.formed,Tryz.underlying165,cells]
def kl(a i:Int):Lit:= .string (keyBytes [.int .i64 a,.int .i64 i])
theorem lits(a i:Int)(h:Wf a i):Tryz.prog.keyLits (Tryz.prog.types.size+1) 165 [.int .i64 a,.int .i64 i]=some [.int .i64 a,.int .i64 i]:=by
 obtain⟨m,hm⟩:∃m,Tryz.prog.types.size=m+1:=Nat.exists_eq_succ_of_ne_zero (Nat.ne_of_gt (Nat.lt_of_le_of_lt (Nat.zero_le _) row))
 rw[hm]
 have c3:Tryz.prog.cellsOf 3=1:=by kernel_rfl
 simp[Program.keyLits,List.range,List.range.loop,Tryz.underlying165,cells,c3,Tryz.underlying3,h.1,h.2]
theorem key_of{a i:Int}(h:Wf a i):keyOf Tryz.prog 165 (.agg #[.int .i64 a,.int .i64 i])=some (kl a i):=by
 have l:=lits a i h
 unfold keyOf
 rw[Tryz.underlying165]
 have kt:Tryz.prog.keyType 165=true:=deep
 simp only[kt,formed,Bool.and_self,if_true]
 show Option.map _ (Tryz.prog.keyLits (Tryz.prog.types.size+1) 165 [.int .i64 a,.int .i64 i])=_
 rw[l]
 rfl
theorem lit_one{m:Nat}{v:Value}{L:List Lit}(h:Tryz.prog.keyLits (m+1) 3 [v]=some L):∃a,v= .int .i64 a∧(Lit.int .i64 a).wf=true∧L=[.int .i64 a]:=by
 cases v<;>simp[Program.keyLits,Tryz.underlying3] at h
 rename_i q a
 obtain⟨⟨rfl,hw⟩,rfl⟩:=h
 exact⟨a,rfl,hw,rfl⟩
theorem lit_two{m:Nat}{cs:List Value}{L:List Lit}(h:Tryz.prog.keyLits (m+1) 165 cs=some L):∃v0 v1 L0 L1,cs=[v0,v1]∧Tryz.prog.keyLits m 3 [v0]=some L0∧Tryz.prog.keyLits m 3 [v1]=some L1∧L=L0++L1:=by
 have c3:Tryz.prog.cellsOf 3=1:=by kernel_rfl
 unfold Program.keyLits at h
 rw[Tryz.underlying165] at h
 simp only[cells,c3] at h
 match cs,h with
 |[],h=>simp at h
 |[_],h=>simp at h
 |_::_::_::_,h=>simp at h
 |[v0,v1],h=>
  cases e0:Tryz.prog.keyLits m 3 [v0] with
  |none=>simp[List.range,List.range.loop,e0] at h
  |some L0=>
   cases e1:Tryz.prog.keyLits m 3 [v1] with
   |none=>simp[List.range,List.range.loop,e0,e1] at h
   |some L1=>
    simp[List.range,List.range.loop,e0,e1] at h
    exact⟨v0,v1,L0,L1,rfl,e0,e1,h.symm⟩
theorem key_inv{v:Value}{l:Lit}(h:keyOf Tryz.prog 165 v=some l):∃x:Int×Int,v= .agg #[.int .i64 x.1,.int .i64 x.2]∧Wf x.1 x.2∧l=kl x.1 x.2:=by
 obtain⟨xs,L,rfl,h1,rfl⟩:=keyOf_top wide h
 obtain⟨m,hm⟩:∃m,Tryz.prog.types.size=m+1:=Nat.exists_eq_succ_of_ne_zero (Nat.ne_of_gt (Nat.lt_of_le_of_lt (Nat.zero_le _) row))
 rw[hm] at h1
 obtain⟨v0,v1,L0,L1,e,h2,h3,rfl⟩:=lit_two h1
 obtain⟨a,rfl,w0,rfl⟩:=lit_one h2
 obtain⟨i,rfl,w1,rfl⟩:=lit_one h3
 obtain⟨xs⟩:=xs
 obtain rfl:xs=_:=e
 exact⟨(a,i),rfl,⟨w0,w1⟩,rfl⟩
theorem kl_inj{a i b j:Int}(h:Wf a i)(k:Wf b j)(e:kl a i=kl b j):a=b∧i=j:=by
 have:=law.inj (key_of h) (e▸key_of k)
 simpa using this
theorem kl_key{a i:Int}(h:Wf a i):WideAt.IsKeyLit (kl a i):=law.key (key_of h)
def Tells(D:D0)(f:Int→Int→Int):Prop:=(∀a i,Wf a i→D.atKey (kl a i) (.lit (.int .i64 0))= .lit (.int .i64 (f a i)))∧∀a i,f a i≠0→Wf a i
def Tab(w:World)(B n:Nat)(f:Int→Int→Int):Prop:=∃D:D0,w.ownsMap Tryz.prog 165 (plainElem Tryz.prog 3) B n D∧Tells D f
theorem tab_made(w:World):Tab (w.alloc (.map #[] 0)) w.heap.size 0 (fun _ _=>0):=
 ⟨.map [],World.ownsMap_made _ _ _ _,fun a i h=>rfl,fun a i h=>absurd rfl h⟩
theorem Tab.lt{w:World}{B n:Nat}{f:Int→Int→Int}(h:Tab w B n f):B<w.heap.size:=by
 obtain⟨D,h1,_⟩:=h
 exact h1.lt
theorem Tab.kept{w w':World}{B n:Nat}{f:Int→Int→Int}{row:Option Nat}(h:Tab w B n f)(hg:w.grownBy w' row)(hne:some B≠row):Tab w' B n f:=by
 obtain⟨D,h1,h2⟩:=h
 exact⟨D,h1.kept hg hne,h2⟩
theorem Tab.below{w w':World}{B n:Nat}{f:Int→Int→Int}(h:Tab w B n f)(k:Below w.heap.size w w'):Tab w' B n f:=h.kept (below_grown k rfl) (by simp)
theorem Tab.congr{w:World}{B n:Nat}{f g:Int→Int→Int}(h:Tab w B n f)(e:∀a i,f a i=g a i):Tab w B n g:=by
 have:f=g:=funext fun a=>funext fun i=>e a i
 exact this▸h
theorem tells_put{D:D0}{f:Int→Int→Int}(h:Tells D f)(hD:Maps.IsMap D){a i v:Int}(hw:Wf a i):Tells (D.put (kl a i) (.lit (.int .i64 v))) (upd f a i v):=by
 refine⟨fun b j hb=>?_,fun b j hb=>?_⟩
 ·by_cases e:b=a∧j=i
  ·obtain⟨rfl,rfl⟩:=e
   rw[upd_same,Maps.atKey_put_same hD (kl_key hw)]
  ·rw[upd_other _ _ _ _ _ _ e,Maps.atKey_put_other (fun q=>e (kl_inj hb hw q)),h.1 b j hb]
 ·by_cases e:b=a∧j=i
  ·obtain⟨rfl,rfl⟩:=e
   exact hw
  ·rw[upd_other _ _ _ _ _ _ e] at hb
   exact h.2 b j hb
def RTab(w:World)(B r n:Nat)(f:Int→Int→Int)(left:Int→Int→Bool)(cnt:Nat):Prop:=
 ∃(D:D0) (lf:Lit→Bool),w.ranges Tryz.prog 165 (plainElem Tryz.prog 3) B r n D lf cnt∧Tells D f∧∀a i,Wf a i→left a i=lf (kl a i)
theorem RTab.tab{w:World}{B r n:Nat}{f:Int→Int→Int}{left:Int→Int→Bool}{cnt:Nat}(h:RTab w B r n f left cnt):Tab w B n f:=by
 obtain⟨D,lf,h1,h2,_⟩:=h
 exact⟨D,h1.owns,h2⟩
theorem RTab.lt{w:World}{B r n:Nat}{f:Int→Int→Int}{left:Int→Int→Bool}{cnt:Nat}(h:RTab w B r n f left cnt):B<w.heap.size∧r<w.heap.size∧r≠B∧w.rangeLeft B r=cnt:=by
 obtain⟨D,lf,h1,_⟩:=h
 exact⟨h1.owns.lt,h1.lt,h1.ne,h1.left_eq⟩
theorem RTab.kept{w w':World}{B r n:Nat}{f:Int→Int→Int}{left:Int→Int→Bool}{cnt:Nat}{row:Option Nat}(h:RTab w B r n f left cnt)(hg:w.grownBy w' row)(hb:some B≠row)(hr:some r≠row):RTab w' B r n f left cnt:=by
 obtain⟨D,lf,h1,h2⟩:=h
 exact⟨D,lf,h1.kept hg hb hr,h2⟩
theorem wp_range(w:World){ops:Array Oper}{rest:List Oper}{o:Oper}{s:Act}{Q:Exit→Act→World→Prop}
  (hg:o.guard=none)(m:Operand)(t:TypeId)(hop:o.op=Op.range t m)(ht:Tryz.prog.underlying t=some (.map 165 3))(B n:Nat)(f:Int→Int→Int)(hm:s.eval m= .map (some B))(hown:Tab w B n f)
  (hK:∀w' left cnt,RTab w' B w.heap.size n f left cnt→cnt≤n→(∀a i,f a i≠0→left a i=true)→w.grownBy w' none→w'.heap.size=w.heap.size+1→wpList Tryz.prog ops Q rest (s.put o.dst (.pointer (some ⟨w.heap.size,0,none⟩))) w'):wpList Tryz.prog ops Q (o::rest) s w:=by
 obtain⟨D,h1,h2⟩:=hown
 refine wpList_range_own w hg m t hop 165 3 law ht _ B n D hm h1 ?_
 intro w' h3 h4 h5
 refine hK w' (fun a i=>Maps.has D (kl a i)) (Maps.size D) ⟨D,Maps.has D,h3,h2,fun a i _=>rfl⟩ ?_ ?_ h4 h5
 ·obtain⟨es,clock,_,_,hs,rfl⟩:=h1
  rw[Maps.size_eq,length_sorted]
  simpa using hs
 ·intro a i hf
  refine Classical.byContradiction fun nh=>?_
  have nh:Maps.has D (kl a i)=false:=by simpa using nh
  have e:=h2.1 a i (h2.2 a i hf)
  rw[Maps.atKey_of_not_has nh] at e
  have:(0:Int)=f a i:=by simpa using e
  exact hf this.symm
theorem wp_next(w:World){ops:Array Oper}{rest:List Oper}{o:Oper}{s:Act}{Q:Exit→Act→World→Prop}
  (hg:o.guard=none)(it:Operand)(hop:o.op=Op.next it false)(B r n:Nat)(f:Int→Int→Int)(left:Int→Int→Bool)(cnt:Nat)(hit:s.eval it= .pointer (some ⟨r,0,none⟩))(h:RTab w B r n f left cnt)
  (hDone:cnt=0→(∀a i,Wf a i→left a i=false)→wpList Tryz.prog ops Q rest (s.put o.dst (.tuple #[.bool false])) w)
  (hMore:∀(a i:Int) (w':World) (left':Int→Int→Bool) (cnt':Nat),Wf a i→(Lit.int .i64 (f a i)).wf=true→left a i=true→(∀b j,Wf b j→left' b j=(left b j&& !decide (b=a∧j=i)))→RTab w' B r n f left' cnt'→cnt'<cnt→w.grownBy w' (some r)→w'.heap.size=w.heap.size→
   (Instr.entry (.pointer (some ⟨r,0,none⟩))).run Tryz.prog w'= .ok (.tuple #[.agg #[.int .i64 a,.int .i64 i],.int .i64 (f a i)]) w'→wpList Tryz.prog ops Q rest (s.put o.dst (.tuple #[.bool true,.agg #[.int .i64 a,.int .i64 i],.int .i64 (f a i)])) w'):
  wpList Tryz.prog ops Q (o::rest) s w:=by
 obtain⟨D,lf,h1,h2,h3⟩:=h
 refine wpList_next_ranges (α:=Int×Int) (β:=Int) w hg it hop 165 law (plainElem Tryz.prog 3) (fun x=> .agg #[.int .i64 x.1,.int .i64 x.2]) (Value.int .i64) (fun key l hk=>by obtain⟨x,e,_⟩:=key_inv hk;exact⟨x,e⟩) (fun v y hv=>by obtain⟨c,rfl,_⟩:=plainElem_int_inv Tryz.underlying3 hv;exact⟨c,rfl⟩) B r n D lf cnt hit h1 ?_ ?_
 ·intro h4 h5
  exact hDone h4 (fun a i hw=>by rw[h3 a i hw,h5])
 ·intro x c l y w' cnt' hkey hlk hv hat hrg hlt hgr hsz hen
  obtain⟨⟨a,i⟩,e,hw,rfl⟩:=key_inv hkey
  obtain⟨c',ec,rfl,hwc⟩:=plainElem_int_inv Tryz.underlying3 hv
  cases ec
  obtain⟨x1,x2⟩:=x
  obtain⟨rfl,rfl⟩:x1=a∧x2=i:=by simpa using e
  have ef:f x1 x2=c:=by
   have:=h2.1 x1 x2 hw
   rw[hat] at this
   simpa using this.symm
  subst ef
  refine hMore x1 x2 w' (fun b j=>lf (kl b j)&& !(kl b j).sameKey (kl x1 x2)) cnt' hw hwc (by rw[h3 x1 x2 hw];exact hlk) (fun b j hb=>?_) ⟨D,_,hrg,h2,fun b j _=>rfl⟩ hlt hgr hsz hen
  rw[h3 b j hb]
  congr 2
  by_cases q:b=x1∧j=x2
  ·obtain⟨rfl,rfl⟩:=q
   rw[WideAt.sameKey_self (kl_key hb)]
   simp
  ·rw[Maps.sameKey_ne (fun e=>q (kl_inj hb hw e))]
   simp[q]
theorem look_run{w:World}{B n:Nat}{f:Int→Int→Int}(h:Tab w B n f){a i:Int}(hw:Wf a i):(Instr.lookup 127 (.map (some B)) (.agg #[.int .i64 a,.int .i64 i]) false).run Tryz.prog w= .ok (.int .i64 (f a i)) w:=by
 obtain⟨D,h1,h2,_⟩:=h
 obtain⟨c,hrun,hat,_⟩:=h1.lookup_int law Tryz.underlying127 Tryz.underlying3 (zero _) (key_of hw)
 rw[h2 a i hw] at hat
 have:f a i=c:=by simpa using hat
 rw[this]
 exact hrun
end TabN
namespace EntryN
open Bals TabN
open Go.MapKept Go.ChangeMaps Go.WideElems
open Go.WideMaps (KeyLaw)
open Tab (Wf zero laidOut isMap_of)
open Entry (owns_block)
theorem klaw:KeyLaw Tryz.prog 165:=deep_law_laid laidOut (m:=2) (by omega) row (by kernel_rfl) wide
theorem tab_block{w w':World}{B n:Nat}{f:Int→Int→Int}(h:Tab w B n f)(e:w'.heap[B]?=w.heap[B]?):Tab w' B n f:=by
 obtain⟨D,h1,h2⟩:=h
 exact⟨D,owns_block h1 e,h2⟩
theorem put_run{w:World}{B n:Nat}{f:Int→Int→Int}(h:Tab w B n f)(hn:n≤1048576){a i v:Int}(hw:Wf a i)(hv:(Lit.int .i64 v).wf=true):
  ∃w',(Instr.mapUpdate 127 (.map (some B)) (.agg #[.int .i64 a,.int .i64 i]) (.int .i64 v)).run Tryz.prog w= .ok () w'∧Tab w' B (n+1) (upd f a i v)∧w.grownBy w' (some B):=by
 obtain⟨D,h1,h2⟩:=h
 obtain⟨w',r,o,g⟩:=h1.update law Tryz.underlying127 (by unfold maxLen;omega) (key_of hw) (plainElem_int Tryz.underlying3 hv)
 exact⟨w',r,⟨_,o,tells_put h2 (isMap_of h1) hw⟩,g⟩
theorem entry_run{w:World}{B n:Nat}{f:Int→Int→Int}(h:Tab w B n f)(hn:n≤1048576){a i:Int}(hw:Wf a i):
  ∃(v0:Value) (st:Nat) (w2:World),(Instr.mapEntry 127 (.map (some B)) (.agg #[.int .i64 a,.int .i64 i])).run Tryz.prog w= .ok (.tuple #[v0,goInt st]) w2∧Tab w2 B (n+1) f∧w.grownBy w2 (some B)∧
   ∀v:Int,(Lit.int .i64 v).wf=true→∃w3,(Instr.entryStore 127 (.map (some B)) (goInt st) (.int .i64 v)).run Tryz.prog w2= .ok () w3∧Tab w3 B (n+1) (upd f a i v)∧w.grownBy w3 (some B):=by
 have h':=h
 obtain⟨D,⟨es,clock,hb,F,hs,hD⟩,hT⟩:=h
 obtain⟨v0,st,es1,clock1,hE,hd,hS⟩:=entry_then_store klaw Tryz.underlying127 (z:= .int .i64 0) zero hb F (key_of hw)
 refine⟨v0,st,_,hE,?_,⟨rfl,rfl,rfl,by simp[setBlock],fun j _ hj=>heap_setBlock_other hb _ (fun e=>hj (by rw[e]))⟩,fun v hv=>?_⟩
 ·rcases law.find w (key_of hw) es.toList F.keys with⟨h1,h2⟩|⟨j,e0,h1,h2,h3⟩
  ·have hE':(Instr.mapEntry 127 (.map (some B)) (.agg #[.int .i64 a,.int .i64 i])).run Tryz.prog w= .ok (.tuple #[.int .i64 0,goInt clock]) (setBlock w B (.map (es.push ⟨.agg #[.int .i64 a,.int .i64 i],.int .i64 0,clock⟩) (clock+1))):=by
    simp[Instr.mapEntry,run_underlying Tryz.underlying127,MapKept.run_getObj_map hb,law.check w false (key_of hw),h1,zero,MapKept.run_setObj_map _ hb,Result.andThen,setBlock]
   obtain⟨w',r,t,g⟩:=put_run h' hn (v:=0) hw (by decide)
   have r':(Instr.mapUpdate 127 (.map (some B)) (.agg #[.int .i64 a,.int .i64 i]) (.int .i64 0)).run Tryz.prog w= .ok () (setBlock w B (.map (es.push ⟨.agg #[.int .i64 a,.int .i64 i],.int .i64 0,clock⟩) (clock+1))):=by
    simp[Instr.mapUpdate,run_underlying Tryz.underlying127,MapKept.run_getObj_map hb,law.check w false (key_of hw),h1,MapKept.run_setObj_map _ hb,Result.andThen,setBlock]
   have ew:setBlock w B (.map es1 clock1)=w':=by
    rw[hE] at hE'
    rw[r] at r'
    injection hE' with _ e1
    injection r' with _ e2
    rw[e1,e2]
   have fz:f a i=0:=by
    have l1:=look_run h' hw
    have l2:(Instr.lookup 127 (.map (some B)) (.agg #[.int .i64 a,.int .i64 i]) false).run Tryz.prog w= .ok (.int .i64 0) w:=by
     simp[Instr.lookup,run_underlying Tryz.underlying127,MapKept.run_getObj_map hb,fun em=>law.check w em (key_of hw),h1,zero,Result.andThen]
    rw[l1] at l2
    injection l2 with e1 _
    simpa using e1
   rw[ew]
   refine t.congr fun b j=>?_
   unfold upd
   by_cases e:b=a∧j=i
   ·rw[if_pos e,e.1,e.2,fz]
   ·rw[if_neg e]
  ·have hj:es[j]?=some e0:=by simpa using h2
   have hsame:es.modify j (fun e=>{e with key:= .agg #[.int .i64 a,.int .i64 i]})=es:=by
    apply Array.ext'
    rw[Array.toList_modify,modify_eq_set _ _ _ _ h2]
    have:({e0 with key:= .agg #[.int .i64 a,.int .i64 i]}:MapEntry)=e0:=by rw[←h3]
    rw[this]
    exact set_self _ _ _ h2
   have hE':(Instr.mapEntry 127 (.map (some B)) (.agg #[.int .i64 a,.int .i64 i])).run Tryz.prog w= .ok (.tuple #[e0.val,goInt e0.born]) (setBlock w B (.map es clock)):=by
    simp[Instr.mapEntry,run_underlying Tryz.underlying127,MapKept.run_getObj_map hb,law.check w false (key_of hw),h1,hj,h3,law.stays w (key_of hw),hsame,MapKept.run_setObj_map _ hb,Result.andThen,setBlock]
   rw[hE] at hE'
   injection hE' with _ e1
   rw[e1]
   obtain⟨D',o1,t1⟩:=tab_block (w':=setBlock w B (.map es clock)) h' (by rw[heap_setBlock_same hb];exact hb.symm)
   exact⟨D',o1.mono (by omega),t1⟩
 ·obtain⟨es',clock',s1,s2⟩:=hS _ (.int .i64 v) (heap_setBlock_same hb _)
  obtain⟨w',r,t,g⟩:=put_run h' hn hw hv
  have ew:w'=setBlock w B (.map es' clock'):=by
   rw[r] at s2
   injection s2
  refine⟨_,s1,tab_block t ?_,⟨rfl,rfl,rfl,by simp[setBlock],fun j _ hj=>?_⟩⟩
  ·rw[ew,heap_setBlock_same hb,heap_setBlock_same (heap_setBlock_same hb _)]
  ·rw[heap_setBlock_other (heap_setBlock_same hb _) _ (fun e=>hj (by rw[e])),heap_setBlock_other hb _ (fun e=>hj (by rw[e]))]
end EntryN
namespace Errs
open Go.Extern.Stop Go.Stop Go.Extern
open Triples (zh zu)
structure Errs(w:World)(n N:Nat)(a:Nat→Addr):Prop where
 v:∀k,k<n→w.cell? ⟨k,0,none⟩=some (.iface 290 (.pointer (some (a k))))
 lt:∀k,k<n→k<N∧(a k).block<N
 ne:∀j k,j<n→k<n→j≠k→a j≠a k
 row:∀k,k<n→∃c t,w.heap[(a k).block]?=some (.cells c t (0,0))
theorem Errs.below{w w':World}{n N M:Nat}{a:Nat→Addr}(h:Errs w n N a)(b:Below M w w')(hM:N≤M):Errs w' n N a:=
 ⟨fun k hk=>(b.cell (p:=⟨k,0,none⟩) (Nat.lt_of_lt_of_le (h.lt k hk).1 hM)).trans (h.v k hk),h.lt,h.ne,fun k hk=>by
  obtain⟨c,t,e⟩:=h.row k hk
  exact⟨c,t,(b.block _ (Nat.lt_of_lt_of_le (h.lt k hk).2 hM)).trans e⟩⟩
theorem Errs.drew{w:World}{n N:Nat}{a:Nat→Addr}(h:Errs w n N a):Errs w.drew n N a:=⟨h.v,h.lt,h.ne,h.row⟩
theorem Errs.grown{w w':World}{n N g:Nat}{a:Nat→Addr}(h:Errs w n N a)(b:w.grownBy w' (some g))(hg:N≤g):Errs w' n N a:=
 ⟨fun k hk=>b.cell (h.v k hk) (fun e=>by injection e with e;have:=(h.lt k hk).1;simp at e;omega),h.lt,h.ne,fun k hk=>by
  obtain⟨c,t,e⟩:=h.row k hk
  exact⟨c,t,(b.block _ (by have:=Array.getElem?_eq_some_iff.1 e;obtain⟨q,_⟩:=this;exact q) (fun e=>by injection e with e;have:=(h.lt k hk).2;omega)).trans e⟩⟩
theorem Errs.less{w:World}{n m N:Nat}{a:Nat→Addr}(h:Errs w n N a)(k:m≤n):Errs w m N a:=
 ⟨fun i hi=>h.v i (by omega),fun i hi=>h.lt i (by omega),fun i j hi hj=>h.ne i j (by omega) (by omega),fun i hi=>h.row i (by omega)⟩
theorem isTypeOf(v:Value)(w:World):(callFunc 144 #[.iface 290 v]).run Tryz.prog w= .ok (.value (.iface 214 (.agg #[.pointer (some ⟨5,290,none⟩)]))) w:=by kernel_rfl
theorem isComparable(w:World):(callFunc 271 #[.agg #[.pointer (some ⟨5,290,none⟩)]]).run Tryz.prog w= .ok (.value (.bool true)) w:=by kernel_rfl
theorem isMethodComparable(v:Value)(w:World):(Go.method 426 214 v "Comparable").run Tryz.prog w= .ok (271,v) w:=by kernel_rfl
theorem isComp:(Tryz.prog.info? 290).map (·.comparable)=some true:=by kernel_rfl
theorem isSize:(Tryz.prog.info? 314).map (·.size)=some 1:=by kernel_rfl
theorem noIsE(v:Value)(xT:TypeId)(w:World):(Instr.typeAssert (.iface 290 v) xT 216 true).run Tryz.prog w= .ok (.tuple #[.nilIface,.bool false]) w:=run_typeAssert_lacksB Tryz.underlying216 (by kernel_rfl) (by kernel_rfl) v xT w
theorem noUnwrapE(v:Value)(xT:TypeId)(w:World):(Instr.typeAssert (.iface 290 v) xT 219 true).run Tryz.prog w= .ok (.tuple #[.nilIface,.bool false]) w:=run_typeAssert_lacksB Tryz.underlying219 (by kernel_rfl) (by kernel_rfl) v xT w
theorem noUnwrapsE(v:Value)(xT:TypeId)(w:World):(Instr.typeAssert (.iface 290 v) xT 221 true).run Tryz.prog w= .ok (.tuple #[.nilIface,.bool false]) w:=run_typeAssert_lacksB Tryz.underlying221 (by kernel_rfl) (by kernel_rfl) v xT w
theorem is_same(a:Addr)(w:World):
  Calls Tryz.prog 105 #[.iface 290 (.pointer (some a)),.iface 290 (.pointer (some a))] w fun e w'=>e= .returned (.bool true)∧w'=w:=by
 obtain⟨i,hi,hcmp⟩:=Option.map_eq_some_iff.1 isComp
 obtain⟨j,hj,hjs⟩:=Option.map_eq_some_iff.1 isSize
 have tT:=isTypeOf
 have cT:=isComparable
 have mR:=isMethodComparable
 have heq:=run_eql_iface_ptr_same (P:=Tryz.prog) w a Tryz.underlying77 Tryz.underlying290 hi hcmp hj
 go_enter Tryz.func105,Tryz.ntmps105
 go_wp2
 refine wp_loop_rounds 1 ?_
 rw[rounds_succ]
 go_wp2
 go_ret
 exact⟨rfl,rfl⟩
theorem is_nil(b:Addr)(w:World):
  Calls Tryz.prog 105 #[.nilIface,.iface 290 (.pointer (some b))] w fun e w'=>e= .returned (.bool false)∧w'=w:=by
 have hn:=run_eql_iface_nil_left (P:=Tryz.prog) w 290 (.pointer (some b)) Tryz.underlying77
 go_enter Tryz.func105,Tryz.ntmps105
 go_wp2
 go_ret
 exact⟨rfl,rfl⟩
theorem is_other(a b:Addr)(ca cb:Array Value)(ta tb:TypeId)(w:World)(hne:a≠b)(ha:w.heap[a.block]?=some (.cells ca ta (0,0)))(hb:w.heap[b.block]?=some (.cells cb tb (0,0))):
  Calls Tryz.prog 105 #[.iface 290 (.pointer (some a)),.iface 290 (.pointer (some b))] w fun e w'=>e= .returned (.bool false)∧w'=w:=by
 obtain⟨i,hi,hcmp⟩:=Option.map_eq_some_iff.1 isComp
 obtain⟨j,hj,hjs⟩:=Option.map_eq_some_iff.1 isSize
 have tT:=isTypeOf
 have cT:=isComparable
 have mR:=isMethodComparable
 have nE:=noIsE
 have uE:=noUnwrapE
 have vE:=noUnwrapsE
 have heq:=run_eql_iface_ptr_other (P:=Tryz.prog) w Tryz.underlying77 Tryz.underlying290 hi hcmp hj (by rw[hjs];decide) hne ha hb
 go_enter Tryz.func105,Tryz.ntmps105
 go_wp2
 refine wp_loop_rounds 1 ?_
 rw[rounds_succ]
 go_wp2
 go_ret
 exact⟨rfl,rfl⟩
def IsRef(a:Nat→Addr)(c:Int)(v:Value):Prop:=
 (c=0∧v= .nilIface)∨(c=3∧v= .iface 290 (.pointer (some (a 1))))∨(c=6∧v= .iface 290 (.pointer (some (a 2))))∨(c=5∧v= .iface 290 (.pointer (some (a 4))))∨(c=7∧v= .iface 290 (.pointer (some (a 0))))∨(c=8∧v= .iface 290 (.pointer (some (a 3))))
theorem iRef(w:World)(N:Nat)(a:Nat→Addr)(c:Int)(v:Value)(E:Errs w 5 N a)(h:IsRef a c v):
  Calls Tryz.prog 106 #[.int .i64 c] w fun e w'=>e= .returned v∧w'=w:=by
 have v0:=E.v 0 (by omega)
 have v1:=E.v 1 (by omega)
 have v2:=E.v 2 (by omega)
 have v3:=E.v 3 (by omega)
 have v4:=E.v 4 (by omega)
 rcases h with⟨rfl,rfl⟩|⟨rfl,rfl⟩|⟨rfl,rfl⟩|⟨rfl,rfl⟩|⟨rfl,rfl⟩|⟨rfl,rfl⟩
 all_goals
  go_enter Tryz.func106,Tryz.ntmps106
  go_wp2
  go_ret
  exact⟨rfl,rfl⟩
theorem iIs(w:World)(N:Nat)(a:Nat→Addr)(v:Value)(j k:Nat)(b:Bool)(E:Errs w 5 N a)(hk:k<5)(h:(v= .nilIface∧b=false)∨(j<5∧v= .iface 290 (.pointer (some (a j)))∧b=decide (j=k))):
  Calls Tryz.prog 105 #[v,.iface 290 (.pointer (some (a k)))] w fun e w'=>e= .returned (.bool b)∧w'=w:=by
 rcases h with⟨rfl,rfl⟩|⟨hj,rfl,rfl⟩
 ·exact is_nil _ _
 ·by_cases e:j=k
  ·subst e
   simp only[decide_true]
   exact is_same _ _
  ·obtain⟨c1,t1,h1⟩:=E.row j hj
   obtain⟨c2,t2,h2⟩:=E.row k hk
   simp only[e,decide_false]
   exact is_other _ _ _ _ _ _ _ (E.ne j k hj hk e) h1 h2
def plc(c:Int):Nat:=if c=3 then 1 else if c=6 then 2 else if c=5 then 4 else if c=7 then 0 else 3
theorem IsRef.at{a:Nat→Addr}{c:Int}{v:Value}(h:IsRef a c v):(v= .nilIface∧c=0)∨(plc c<5∧v= .iface 290 (.pointer (some (a (plc c))))∧(c=3∨c=6∨c=5∨c=7∨c=8)):=by
 rcases h with⟨rfl,rfl⟩|⟨rfl,rfl⟩|⟨rfl,rfl⟩|⟨rfl,rfl⟩|⟨rfl,rfl⟩|⟨rfl,rfl⟩
 ·exact .inl ⟨rfl,rfl⟩
 ·exact .inr ⟨by decide,rfl,by omega⟩
 ·exact .inr ⟨by decide,rfl,by omega⟩
 ·exact .inr ⟨by decide,rfl,by omega⟩
 ·exact .inr ⟨by decide,rfl,by omega⟩
 ·exact .inr ⟨by decide,rfl,by omega⟩
theorem is_arg{a:Nat→Addr}{c d:Int}{v:Value}(h:IsRef a c v)(hd:d=3∨d=6∨d=5∨d=7∨d=8):(v= .nilIface∧decide (c=d)=false)∨(plc c<5∧v= .iface 290 (.pointer (some (a (plc c))))∧decide (c=d)=decide (plc c=plc d)):=by
 rcases h.at with⟨h1,rfl⟩|⟨h1,h2,h3⟩
 ·refine .inl ⟨h1,decide_eq_false ?_⟩
  omega
 ·refine .inr ⟨h1,h2,?_⟩
  rcases h3 with rfl|rfl|rfl|rfl|rfl<;>rcases hd with rfl|rfl|rfl|rfl|rfl<;>decide
theorem ref_of(a:Nat→Addr){d:Int}(hd:d=3∨d=6∨d=5∨d=7∨d=8):IsRef a d (.iface 290 (.pointer (some (a (plc d))))):=by
 rcases hd with rfl|rfl|rfl|rfl|rfl
 ·exact .inr (.inl ⟨rfl,rfl⟩)
 ·exact .inr (.inr (.inl ⟨rfl,rfl⟩))
 ·exact .inr (.inr (.inr (.inl ⟨rfl,rfl⟩)))
 ·exact .inr (.inr (.inr (.inr (.inl ⟨rfl,rfl⟩))))
 ·exact .inr (.inr (.inr (.inr (.inr ⟨rfl,rfl⟩))))
def cdk(k:Nat):Int:=if k=0 then 3 else if k=1 then 6 else if k=2 then 5 else if k=3 then 7 else 8
theorem iCode(w:World)(N:Nat)(a:Nat→Addr)(c:Int)(v:Value)(E:Errs w 5 N a)(h:IsRef a c v):
  Calls Tryz.prog 61 #[v] w fun e w'=>e= .returned (.int .i64 c)∧w'=w:=by
 have HE:=zh E
 have HR:=zh h
 clear E h
 have i0:∀w,(Instr.index 145 (.agg #[.int .i64 3,.int .i64 6,.int .i64 5,.int .i64 7,.int .i64 8]) (.int .i64 0)).run Tryz.prog w= .ok (.int .i64 3) w:=fun _=>by kernel_rfl
 have i1:∀w,(Instr.index 145 (.agg #[.int .i64 3,.int .i64 6,.int .i64 5,.int .i64 7,.int .i64 8]) (.int .i64 1)).run Tryz.prog w= .ok (.int .i64 6) w:=fun _=>by kernel_rfl
 have i2:∀w,(Instr.index 145 (.agg #[.int .i64 3,.int .i64 6,.int .i64 5,.int .i64 7,.int .i64 8]) (.int .i64 2)).run Tryz.prog w= .ok (.int .i64 5) w:=fun _=>by kernel_rfl
 have i3:∀w,(Instr.index 145 (.agg #[.int .i64 3,.int .i64 6,.int .i64 5,.int .i64 7,.int .i64 8]) (.int .i64 3)).run Tryz.prog w= .ok (.int .i64 7) w:=fun _=>by kernel_rfl
 have i4:∀w,(Instr.index 145 (.agg #[.int .i64 3,.int .i64 6,.int .i64 5,.int .i64 7,.int .i64 8]) (.int .i64 4)).run Tryz.prog w= .ok (.int .i64 8) w:=fun _=>by kernel_rfl
 go_enter Tryz.func61,Tryz.ntmps61
 go_wp2
 go_loop [4,6] (fun _ i=>∃k:Nat,i= .int .i64 k∧k≤5∧Hid (∀j,j<k→c≠cdk j)) (fun _ i=>5-(intOf i).toNat)
 case atStart=>exact⟨0,rfl,by omega,zh (fun j hj=>by omega)⟩
 case round=>
  obtain⟨k,rfl,hk,HN⟩:=hrel
  by_cases t:k<5
  ·have cd:=show cdk k=3∨cdk k=6∨cdk k=5∨cdk k=7∨cdk k=8 from by unfold cdk;repeat(first|omega|split)
   have RO:=zh (ref_of a cd)
   have AR:=zh (is_arg (zu HR) cd)
   have LT:=zh (show plc (cdk k)<5 from by rcases(show k=0∨k=1∨k=2∨k=3∨k=4 by omega) with rfl|rfl|rfl|rfl|rfl<;>decide)
   obtain⟨b,hb⟩:∃b,Hid (decide (c=cdk k)=b):=⟨_,rfl⟩
   rw[zu hb] at AR
   have CK:=zh (show ∃d,cdk k=d from⟨_,rfl⟩)
   obtain⟨P,hP⟩:∃P,Hid (a (plc (cdk k))=P):=⟨_,rfl⟩
   rcases(show k=0∨k=1∨k=2∨k=3∨k=4 by omega) with rfl|rfl|rfl|rfl|rfl
   all_goals
    clear t hk cd
    go_wp2_with fail
    refine(iRef w N a _ _ (zu HE) (zu RO)).mono ?_
    rintro e u1 ⟨rfl,rfl⟩
    go_wp2_with fail
    refine(iIs _ N a v _ _ b (zu HE) (zu LT) (zu AR)).mono ?_
    rintro e u2 ⟨rfl,rfl⟩
    cases b
    ·have NX:=zh (of_decide_eq_false (zu hb))
     have HX:=zh (fun j hj=>show c≠cdk j from by
      rcases Nat.lt_or_eq_of_le (Nat.le_of_lt_succ hj) with q|q
      ·exact(zu HN) j q
      ·rw[q];exact zu NX)
     go_wp2
     go_round
     case rel=>first|exact⟨1,by go_num,by omega,HX⟩|exact⟨2,by go_num,by omega,HX⟩|exact⟨3,by go_num,by omega,HX⟩|exact⟨4,by go_num,by omega,HX⟩|exact⟨5,by go_num,by omega,HX⟩
     case measure=>simp[intOf]
    ·have EQ:=zh (of_decide_eq_true (zu hb))
     go_wp2
     go_ret
     exact⟨by rw[zu EQ];rfl,rfl⟩
  ·obtain rfl:k=5:=by omega
   have Z:=zh (show c=0 from by
    have n0:=(zu HN) 0 (by omega)
    have n1:=(zu HN) 1 (by omega)
    have n2:=(zu HN) 2 (by omega)
    have n3:=(zu HN) 3 (by omega)
    have n4:=(zu HN) 4 (by omega)
    simp[cdk] at n0 n1 n2 n3 n4
    rcases(zu HR).at with⟨_,h⟩|⟨_,_,h⟩
    ·exact h
    ·omega)
   clear t hk HN
   go_wp2
   go_ret
   exact⟨by have z:=zu Z;subst z;rfl,rfl⟩
end Errs
namespace NetT
open Bals Triples Cmp TabN EntryN Errs
open Tab (Wf wf_no)
open PostMore (sumK)
open Out (Coll coll_start coll_zero coll_more coll_end)
theorem apart{e:TypeId}{w:World}{base g n cap:Nat}{ps:List T3}{B m:Nat}{f:Int→Int→Int}(h:Own3 e w base g n cap ps)(k:TabN.Tab w B m f):g≠B:=by
 obtain⟨D,⟨es,clock,hb,_⟩,_⟩:=k
 rcases h.2 with⟨z,_⟩|⟨g',c,cur,z,_,hc,_⟩
 ·simp at z
 ·obtain⟨rfl,rfl⟩:g=g'∧cap=c:=by simpa using z
  intro e
  rw[e,hb] at hc
  simp at hc
theorem apart2{e:TypeId}{w:World}{base g n cap:Nat}{ps:List T3}{B r m:Nat}{f:Int→Int→Int}{left:Int→Int→Bool}{cnt:Nat}(h:Own3 e w base g n cap ps)(k:RTab w B r m f left cnt):g≠B∧g≠r:=by
 refine⟨apart h k.tab,?_⟩
 obtain⟨D,lf,⟨es,clock,since,seen,c0,hb,_,_,_,hr,_⟩,_⟩:=k
 rcases h.2 with⟨z,_⟩|⟨g',c,cur,z,_,hc,_⟩
 ·simp at z
 ·obtain⟨rfl,rfl⟩:g=g'∧cap=c:=by simpa using z
  intro e
  rw[e,hr] at hc
  simp at hc
theorem tab_wf{w:World}{B n:Nat}{f:Int→Int→Int}(h:TabN.Tab w B n f):∀a i,f a i≠0→Wf a i:=by
 obtain⟨D,_,h2⟩:=h
 exact h2.2
theorem tab_drew{w:World}{B n:Nat}{f:Int→Int→Int}(h:TabN.Tab w B n f):TabN.Tab w.drew B n f:=h.below ((Below.refl _ _).drew)
theorem iAdd(w:World)(base B n g cap:Nat)(L ps:List T3)(hn:n+ps.length≤1000)(ht:TabN.Tab w B n (sumK L))(ho:Own3 67 w base g ps.length cap ps)(amt:∀l∈L++ps,Amt l.2.2)(len:(L++ps).length≤200)(num:∀l∈ps,NoOk l.1∧NoOk l.2.1):
  Calls Tryz.prog 90 #[.map (some B),.slice (some ⟨g,0,none⟩) ps.length cap] w fun e w'=>e= .returned (.tuple #[])∧TabN.Tab w' B (n+ps.length) (sumK (L++ps))∧w.grownBy w' (some B):=by
 have ap:=apart ho ht
 have HO:=zh ho
 have HA:=zh amt
 have HN:=zh num
 have HL:=zh len
 have T0:=zh (show TabN.Tab w B (n+0) (sumK (L++ps.take 0)) from by simpa using ht)
 have p20:ps.length≤1000:=by omega
 clear ho amt num ht len
 go_enter Tryz.func90,Tryz.ntmps90
 go_wp2
 go_loopw [5,8] (fun _ j wr=>∃(k:Nat),j= .int .i64 k∧k≤ps.length∧Hid (TabN.Tab wr B (n+k) (sumK (L++ps.take k)))∧Hid (w.grownBy wr (some B))) (fun _ j _=>ps.length-(intOf j).toNat)
 case atStart=>exact⟨0,rfl,by omega,T0,zh (World.grownBy.refl w _)⟩
 case round=>
  clear T0
  obtain⟨k,rfl,hk,HT,HG⟩:=hrel
  by_cases t:k<ps.length
  ·have ne:some g≠some B:=fun e=>by injection e;omega
   have OW:=zh ((zu HO).kept (zu HG) ne)
   obtain⟨e0,e1,e2⟩:=(zu OW).at k t
   have TN:=zh (take_next t)
   have PM:=zh (getD_mem t)
   have TK:=zh (fun l (h:l∈ps.take k)=>List.mem_of_mem_take h)
   obtain⟨l,hl⟩:∃l,Hid (el3 ps k=l):=⟨_,rfl⟩
   rw[zu hl] at e0 e1 e2 TN PM
   obtain⟨l0,l1,l2⟩:=l
   have WF:=(fun q:NoOk l0∧NoOk l1=>wf_no q.1 q.2) ((zu HN) _ (zu PM))
   have AM:Amt l2:=(zu HA) _ (List.mem_append_right _ (zu PM))
   unfold Amt at AM
   have VB:=Net.sumK_near (ps:=L++ps.take k) (fun l hl=>by
    rcases List.mem_append.1 hl with hl|hl
    ·exact(zu HA) l (List.mem_append_left _ hl)
    ·exact(zu HA) l (List.mem_append_right _ ((zu TK) l hl))) (by have:=zu HL;simp at this⊢;omega) l0 l1
   have NX:=zh (show sumK (L++ps.take (k+1))=upd (sumK (L++ps.take k)) l0 l1 (sumK (L++ps.take k) l0 l1+l2) from by
    rw[zu TN,←List.append_assoc,Net.sumK_one])
   obtain⟨F,hF⟩:∃F,Hid (sumK (L++ps.take k)=F):=⟨_,rfl⟩
   rw[zu hF] at HT NX VB
   obtain⟨fv,hfv⟩:∃fv,Hid (F l0 l1=fv):=⟨_,rfl⟩
   rw[zu hfv] at VB NX
   have HW:IntKind.i64.wrap (fv+l2)=fv+l2:=by rw[IntKind.wrap_i64]<;>omega
   have WV:(Lit.int .i64 (fv+l2)).wf=true:=WalkArith.wf_i64 (by omega)
   have bl:=(zu HT).lt
   have T3:=zh (tab_drew ((zu HT).kept (World.grownBy_alloc wr (.cells #[.int .i64 l0,.int .i64 l1,.int .i64 l2] 67) none) (by simp)))
   have G3:=zh (Pairs.grown_trans (zu HG) (show wr.grownBy (wr.alloc (.cells #[.int .i64 l0,.int .i64 l1,.int .i64 l2] 67)).drew (some B) from(fun h=>⟨h.os,h.tape,h.output,h.size,h.block⟩) (World.grownBy_alloc wr (.cells #[.int .i64 l0,.int .i64 l1,.int .i64 l2] 67) (some B))))
   have l3:=look_run (zu T3) WF
   rw[zu hfv] at l3
   obtain⟨v0,st,w4,E4,t4,g4,ST⟩:=entry_run (zu T3) (by omega) WF
   have l4:=look_run t4 WF
   rw[zu hfv] at l4
   obtain⟨w5,E5,t5,g5⟩:=ST (fv+l2) WV
   replace E5:(Instr.entryStore 127 (.map (some B)) (.int .i64 (st:Int)) (.int .i64 (fv+l2))).run Tryz.prog w4= .ok () w5:=E5
   have nr:some wr.heap.size≠some B:=fun e=>by injection e;omega
   have p0:(wr.alloc (.cells #[.int .i64 l0,.int .i64 l1,.int .i64 l2] 67)).drew.cell? ⟨wr.heap.size,0,none⟩=some (.int .i64 l0):=by simp
   have p1:(wr.alloc (.cells #[.int .i64 l0,.int .i64 l1,.int .i64 l2] 67)).drew.cell? ⟨wr.heap.size,1,none⟩=some (.int .i64 l1):=by simp
   have p2:(wr.alloc (.cells #[.int .i64 l0,.int .i64 l1,.int .i64 l2] 67)).drew.cell? ⟨wr.heap.size,2,none⟩=some (.int .i64 l2):=by simp
   have K4:=And.intro p0 (And.intro p1 p2)
   have K5:=And.intro (g4.cell p0 nr) (And.intro (g4.cell p1 nr) (g4.cell p2 nr))
   have K6:=And.intro (g5.cell p0 nr) (And.intro (g5.cell p1 nr) (g5.cell p2 nr))
   have S5:=zh (Pairs.grown_trans (zu G3) g5)
   have T5:=zh (show TabN.Tab w5 B (n+(k+1)) (sumK (L++ps.take (k+1))) from by rw[zu NX];exact t5)
   clear t4 g4 t5 g5 ST HT HG G3 T3 p0 p1 p2 NX VB TN PM TK OW hl
   go_wp2_with fail
   go_region_held3 (fun w'=>w'.cell? ⟨wr.heap.size,0,none⟩=some (.int .i64 l0)∧w'.cell? ⟨wr.heap.size,1,none⟩=some (.int .i64 l1)∧w'.cell? ⟨wr.heap.size,2,none⟩=some (.int .i64 l2)) (first|exact K4|exact K5|exact K6) (fail)
   all_goals
    go_wp2
    go_roundw
    case rel=>exact⟨k+1,by go_num,by omega,T5,S5⟩
    case measure=>simp[intOf];omega
  ·obtain rfl:k=ps.length:=by omega
   have T9:=zh (show TabN.Tab wr B (n+ps.length) (sumK (L++ps)) from by have:=zu HT;rwa [List.take_length] at this)
   clear HT
   go_wp2
   go_end0
   exact⟨rfl,zu T9,zu HG⟩
def IsTold(f:Int→Int→Int)(a:Nat→Addr)(qs:List T3)(v:Value):Prop:=
 ((∀x i,Amt (f x i))∧ListOf f qs∧v= .nilIface)∨(¬(∀x i,Amt (f x i))∧qs=[]∧v= .iface 290 (.pointer (some (a 3))))
theorem iTold(w:World)(B n N:Nat)(f:Int→Int→Int)(ad:Nat→Addr)(hn:n≤100000)(ht:TabN.Tab w B n f)(E:Errs w 4 N ad)(hN:N≤w.heap.size):
  Calls Tryz.prog 92 #[.map (some B)] w fun e w'=>∃qs g c v,IsTold f ad qs v∧qs.length≤n∧e= .returned (.tuple #[.slice (some ⟨g,0,none⟩) qs.length c,v])∧Own3 67 w' w.heap.size g qs.length c qs∧Below w.heap.size w w':=by
 have hB:=ht.lt
 have HWF:=zh (tab_wf ht)
 have HE:=zh E
 have t1:=ht.kept (World.grownBy_alloc w (.cells #[] 67) none) (by simp)
 have HT:=zh t1
 have O0:=zh (lit30 67 w w.heap.size (Nat.le_refl _))
 have B0:=zh (show Below w.heap.size w (w.alloc (.cells #[] 67)) from(Below.refl _ _).alloc (Nat.le_refl _) _)
 clear ht t1 E
 go_enter Tryz.func92,Tryz.ntmps92
 go_wp2_with (first|(at_range;refine wp_range _ rfl _ 127 rfl Tryz.underlying127 B n f rfl (zu HT) ?_;intro w0 left0 cnt0 rt0 c0 lz0 g0 s0)|go_in)
 go_frame
 have RT:=zh rt0
 have CO:=zh (coll_start lz0)
 have AG0:=zh (show ∀x i,Wf x i→left0 x i=false→Amt (f x i) from fun x i _ h=>by
  have z:f x i=0:=Classical.byContradiction fun q=>by rw[lz0 x i q] at h;cases h
  rw[z];unfold Amt;omega)
 have O1:=zh ((zu O0).kept g0 (by simp))
 have B1:=zh (next (zu B0) (grownBy_below g0))
 clear rt0 lz0 g0 HT O0 B0
 simp only[World.size_alloc] at RT s0
 simp only[World.size_alloc]
 generalize hR:w.heap.size+1=R at *
 have hRl:w.heap.size<R:=by omega
 go_loopw [4,5,6] (fun l _ _ wr=>∃(qs:List T3) (g c:Nat) (left:Int→Int→Bool) (cnt:Nat),l= .slice (some ⟨g,0,none⟩) qs.length c∧Hid (Own3 67 wr w.heap.size g qs.length c qs)∧Hid (RTab wr B R n f left cnt)∧Hid (Coll qs f left)∧Hid (∀x i,Wf x i→left x i=false→Amt (f x i))∧qs.length+cnt≤n∧Hid (Below w.heap.size w wr)) (fun _ _ _ wr=>wr.rangeLeft B R)
 case atStart=>exact⟨[],w.heap.size,0,left0,cnt0,rfl,O1,RT,CO,AG0,by simpa using c0,B1⟩
 case round=>
  clear RT CO O1 B1 c0 s0 AG0
  obtain⟨qs,g,c,left,cnt,rfl,HO,RT,CO,AG,hc,HB⟩:=hrel
  go_wp2_with (first|(at_next;refine wp_next _ rfl _ rfl B R n f left cnt rfl (zu RT) ?_ ?_)|go_in)
  ·intro c0 l0
   have LZ:=zh l0
   have AL:=zh (show ∀x i,Amt (f x i) from fun x i=>by
    by_cases z:f x i=0
    ·rw[z];unfold Amt;omega
    ·exact(zu AG) x i ((zu HWF) x i z) (l0 x i ((zu HWF) x i z)))
   have sz:=(zu HO).lt
   clear l0
   go_wp2_with fail
   refine(SortN.sorts _ w.heap.size g qs.length c qs (by omega) (zu HO)).mono ?_
   rintro e w2 ⟨rfl,rs,hp,hs,o2,b2⟩
   have LO:=zh (coll_end (zu CO) (zu HWF) (zu LZ) hp hs)
   have el:rs.length=qs.length:=hp.length_eq
   have O2:=zh o2
   have B2:=zh ((zu HB).trans (b2.mono sz.1))
   clear hp hs o2 b2
   go_wp2
   go_ret2
   exact⟨rs,g,c,_,.inl ⟨zu AL,zu LO,rfl⟩,by omega,by rw[el];rfl,by rw[el];exact zu O2,zu B2⟩
  ·intro a i w2 left2 cnt2 wf wv la l2 rt2 lt2 g2 s2 hen
   have l2:∀b j,Wf b j→left2 b j=(left b j&& !decide (b=a∧j=i)):=fun b j h=>by
    rw[l2 b j h]
    by_cases e1:b=a<;>by_cases e2:j=i<;>simp[e1,e2]
   have ap:=apart2 (zu HO) (zu RT)
   have ML:=zh (show w2.rangeLeft B R<wr.rangeLeft B R by rw[rt2.lt.2.2.2,(zu RT).lt.2.2.2];exact lt2)
   have RT2:=zh rt2
   have O2:=zh ((zu HO).kept g2 (by simp;exact ap.2))
   have B2:=zh ((zu HB).grown g2 (zu HB).size (fun j hj=>by cases hj;exact Nat.le_of_lt hRl))
   have CZ:=zh (fun hz=>coll_zero (zu CO) l2 hz)
   have CM:=zh (fun hz=>coll_more (zu CO) wf la l2 hz)
   have AN:=zh (show Amt (f a i)→∀x j,Wf x j→left2 x j=false→Amt (f x j) from fun h x j hw hl=>by
    rw[l2 x j hw] at hl
    by_cases e:x=a∧j=i
    ·rw[e.1,e.2];exact h
    ·exact(zu AG) x j hw (by simpa[e] using hl))
   obtain⟨b1,h1⟩:=says_of (Amt (f a i))
   have BAD:=zh (show ¬Amt (f a i)→¬(∀x j,Amt (f x j)) from fun h k=>h (k a i))
   clear rt2 l2 g2 s2 la wf wv CO AG
   generalize f a i=v at *
   have O3:=zh ((zu O2).alloc (.cells #[.int .i64 a,.int .i64 i] 165))
   have R3:=zh ((zu RT2).kept (World.grownBy_alloc w2 (.cells #[.int .i64 a,.int .i64 i] 165) none) (by simp) (by simp))
   have B3:=zh ((zu B2).alloc (zu B2).size (.cells #[.int .i64 a,.int .i64 i] 165))
   have M3:World.rangeLeft (w2.alloc (.cells #[.int .i64 a,.int .i64 i] 165)) B R=w2.rangeLeft B R:=by rw[(zu R3).lt.2.2.2,(zu RT2).lt.2.2.2]
   have M3:=zh M3
   have bs:=(zu B2).size
   have E3:=zh ((zu HE).below (zu B3) hN)
   have H1:=zh h1
   clear h1
   go_wp2_with fail
   refine(iAmt v b1 _ (zu H1)).mono ?_
   rintro e v1 ⟨rfl,rfl⟩
   cases b1
   ·have FB:=zh ((zu BAD) (zu H1).no)
    have ve:=(zu E3).v 3 (by omega)
    have ve':((w2.alloc (.cells #[.int .i64 a,.int .i64 i] 165)).alloc (.cells #[] 67)).cell? ⟨3,0,none⟩=some (.iface 290 (.pointer (some (ad 3)))):=cell?_alloc_old _ ve
    have O9:=zh (lit30 67 (w2.alloc (.cells #[.int .i64 a,.int .i64 i] 165)) w.heap.size (zu B3).size)
    have B9:=zh ((zu B3).alloc (zu B3).size (.cells #[] 67))
    go_wp2_with fail
    go_region
    all_goals
     go_wp2
     go_ret2
     exact⟨[],_,0,_,.inr ⟨zu FB,rfl,rfl⟩,by simp,rfl,by have:=(zu O9).below (Below.refl _ _).drew (zu O9).lt.2;rwa [World.size_alloc] at this,(zu B9).drew⟩
   have AG2:=zh ((zu AN) (zu H1).yes)
   by_cases v0:v=0
   ·have CC:=zh ((zu CZ) v0)
    clear CZ CM
    subst v0
    go_wp2
    go_roundw
    case rel=>exact⟨qs,g,c,left2,cnt2,rfl,O3,R3,CC,AG2,by omega,B3⟩
    case measure=>rw[zu M3];exact zu ML
   ·have CC:=zh ((zu CM) v0)
    have v0b:(v==0)=false:=by simpa using v0
    clear CZ CM
    have O4:=zh ((zu O3).alloc (.cells #[.int .i64 a,.int .i64 i,.int .i64 v] 67))
    have R4:=zh ((zu R3).kept (World.grownBy_alloc _ (.cells #[.int .i64 a,.int .i64 i,.int .i64 v] 67) none) (by simp) (by simp))
    have B4:=zh ((zu B3).alloc (zu B3).size (.cells #[.int .i64 a,.int .i64 i,.int .i64 v] 67))
    have V4:=zh (show Holds3 ((w2.alloc (.cells #[.int .i64 a,.int .i64 i] 165)).alloc (.cells #[.int .i64 a,.int .i64 i,.int .i64 v] 67)) (w2.heap.size+1) 0 (a,i,v) from by unfold Holds3;simp)
    go_wp2_with (first|(at_builtin;refine LegApp.wp_app _ rfl _ _ rfl w.heap.size g qs.length c qs (w2.heap.size+1) a i v rfl rfl (zu O4) (zu V4) (by omega) (by simp;omega) ?_;intro g5 c5 w5 o5 gr5 _)|go_in)
    have R5:=zh ((zu R4).kept gr5 (by simp;exact Ne.symm ap.1) (by simp;exact Ne.symm ap.2))
    have M5:=zh (show w5.rangeLeft B R=w2.rangeLeft B R by rw[(zu R5).lt.2.2.2,(zu RT2).lt.2.2.2])
    have B5:=zh ((zu B4).grown gr5 (by simp;omega) (fun j hj=>by cases hj;exact(zu HO).lt.1))
    have el:(qs++[(a,i,v)]).length=qs.length+1:=by simp
    have O5:=zh o5
    clear o5 gr5
    go_wp2
    go_roundw
    case rel=>exact⟨qs++[(a,i,v)],g5,c5,left2,cnt2,by rw[el],zh (by rw[el];exact zu O5),R5,CC,AG2,by rw[el];omega,B5⟩
    case measure=>rw[zu M5];exact zu ML
end NetT
namespace NetLegsI
open BMem Bks ILists IBalsFit Ans Trd Net IPlace8 Errs NetT
open Lots (Says says_of NoOk)
open Bals (T3 el3 Amt)
open Tup8 (T8 el8)
open Triples (Own3)
open PostMore (sumK)
open ILotsFit (St.grown)
open SNetL (at_take take_nos open_next nodup_next has_dup mem_nos)
def NetV(ok:Bool)(v:Value):Prop:=(ok=true∧v= .nilIface)∨(ok=false∧∃a,v= .iface 290 (.pointer (some a)))
def AnsL(b:Bk)(nos:List Int)(w:World)(e:Ending)(w':World):Prop:=
 ∃(qs:List T3) (ok:Bool) (v:Value) (g c:Nat),IsNetL b nos qs ok∧NetV ok v∧qs.length≤120∧e= .returned (.tuple #[.slice (some ⟨g,0,none⟩) qs.length c,v])∧Own3 67 w' w.heap.size g qs.length c qs∧Below w.heap.size w w'
theorem ansL_no{b:Bk}{nos:List Int}{w W:World}{a:Addr}(h:IsNetL b nos [] false)(k:Below w.heap.size w W):AnsL b nos w (.returned (.tuple #[.slice (some ⟨W.heap.size,0,none⟩) 0 0,.iface 290 (.pointer (some a))])) (W.alloc (.cells #[] 67)).drew:=
 ⟨[],false,_,W.heap.size,0,h,.inr ⟨rfl,a,rfl⟩,by simp,rfl,(fun o:Own3 67 _ _ _ 0 0 []=>o.below (Below.refl _ _).drew o.lt.2) (Triples.lit30 67 W w.heap.size k.size),(k.alloc k.size _).drew⟩
theorem legs_no{t:T8}(h:TOne t):∀l∈legsT t,Bals.NoOk l.1∧Bals.NoOk l.2.1:=by
 intro l hl
 obtain⟨i,hi,rfl⟩:=Bals.mem_getD hl
 have:=(SCarryP.legs_formed h).2 i hi
 exact⟨this.1,this.2.1⟩
theorem iNetL(w:World)(x:Bx)(gN capN N:Nat)(nos:List Int)(ad:Nat→Addr)(ok:Ok x.b)(hr:Rd w x)(hc:nos.length≤capN)(hc2:capN≤9223372036854775807)(lN:gN<w.heap.size)(aN:Ints.At w gN nos)(E:Errs w 4 N ad)(hN:N≤w.heap.size):
  Calls Tryz.prog 38 #[.agg #[.slice (some ⟨x.ga,0,none⟩) x.b.ac.length x.ca,.slice (some ⟨x.gi,0,none⟩) x.b.ic.length x.ci,.slice (some ⟨x.gb,0,none⟩) x.b.bs.length x.cb,.slice (some ⟨x.gl,0,none⟩) x.b.ls.length x.cl,.slice (some ⟨x.gt,0,none⟩) x.b.ts.length x.ct,.int .i64 x.b.lot],.slice (some ⟨gN,0,none⟩) nos.length capN] w (AnsL x.b nos w):=by
 have OK:=zh ok
 have HR:=zh hr
 have AN:=zh aN
 have HE:=zh E
 have AS:=zh (asc ok.1.2.2.2.2.1)
 have S0:=zh (St.start hr 40)
 have nt:=hr.nt
 have hmm:= @run_makeMap Tryz.prog
 clear ok hr aN E
 by_cases n30:nos.length≤30
 rotate_left
 ·have F:=zh (show IsNetL x.b nos [] false from .inr ⟨fun k=>n30 k.2.1,rfl,rfl⟩)
  have nb:decide ((nos.length:Int)>30)=true:=decide_eq_true (by omega)
  have B0:=zh (zu S0).b
  have E0:=zh ((zu HE).below (zu B0) hN)
  have ve:=(zu E0).v 0 (by omega)
  have ve':=cell?_alloc_old (.cells #[] 67) ve
  have A9:=zh (ansL_no (a:=ad 0) (zu F) (zu B0))
  rw[World.size_alloc] at A9
  clear n30
  go_enter Tryz.func38,Tryz.ntmps38
  go_wp2_with fail
  go_region
  all_goals
   go_wp2
   go_ret2
   exact zu A9
 have nb:decide ((nos.length:Int)>30)=false:=decide_eq_false (by omega)
 have T0:=zh (TabN.tab_made (w.alloc (.cells #[.slice (some ⟨x.ga,0,none⟩) x.b.ac.length x.ca,.slice (some ⟨x.gi,0,none⟩) x.b.ic.length x.ci,.slice (some ⟨x.gb,0,none⟩) x.b.bs.length x.cb,.slice (some ⟨x.gl,0,none⟩) x.b.ls.length x.cl,.slice (some ⟨x.gt,0,none⟩) x.b.ts.length x.ct,.int .i64 x.b.lot] 40)))
 have S1:=zh ((zu S0).step (one_more (w.alloc (.cells #[.slice (some ⟨x.ga,0,none⟩) x.b.ac.length x.ca,.slice (some ⟨x.gi,0,none⟩) x.b.ic.length x.ci,.slice (some ⟨x.gb,0,none⟩) x.b.bs.length x.cb,.slice (some ⟨x.gl,0,none⟩) x.b.ls.length x.cl,.slice (some ⟨x.gt,0,none⟩) x.b.ts.length x.ct,.int .i64 x.b.lot] 40)) (.map #[] 0)))
 have hB:w.heap.size<(w.alloc (.cells #[.slice (some ⟨x.ga,0,none⟩) x.b.ac.length x.ca,.slice (some ⟨x.gi,0,none⟩) x.b.ic.length x.ci,.slice (some ⟨x.gb,0,none⟩) x.b.bs.length x.cb,.slice (some ⟨x.gl,0,none⟩) x.b.ls.length x.cl,.slice (some ⟨x.gt,0,none⟩) x.b.ts.length x.ct,.int .i64 x.b.lot] 40)).heap.size:=by simp
 clear S0
 go_enter Tryz.func38,Tryz.ntmps38
 go_wp2
 rw[World.size_alloc] at T0 hB
 generalize w.heap.size+1=B at *
 go_loopw [7,8,9,10,19] (fun _ _ _ _ j wr=>∃(k:Nat),j= .int .i64 k∧k≤nos.length∧Hid (TabN.Tab wr B (4*k) (sumK (legsOf x.b.ts (nos.take k))))∧Hid (AllOpen x.b.ts (nos.take k))∧Hid ((nos.take k).Nodup)∧Hid (St w wr x)) (fun _ _ _ _ j _=>nos.length-(intOf j).toNat)
 case atStart=>exact⟨0,rfl,by omega,T0,zh (fun no hn=>by simp at hn),zh (by simp),S1⟩
 case round=>
  clear T0 S1
  obtain⟨k,rfl,hk,HT,HA,HD,HS⟩:=hrel
  by_cases t:k<nos.length
  ·obtain⟨no,hno⟩:∃no,Hid (nos.getD k 0=no):=⟨_,rfl⟩
   have AW:=zh ((zu AN).below (zu HS).b lN)
   have cN:wr.cell? ⟨gN,k,none⟩=some (.int .i64 no):=by rw[←zu hno];exact(zu AW) k t
   obtain⟨c0,c1,c2,c3,c4,c5⟩:=(zu HS).c
   go_wp2_with fail
   refine(iPlace wr x no (zu HS).r AS).mono ?_
   rintro e u1 ⟨c,f,hp,hf,rfl,bb⟩
   have S2:=zh ((zu HS).step bb)
   have T2:=zh ((zu HT).below bb)
   have E2:=zh ((zu HE).below (zu S2).b hN)
   have A2:=zh ((zu AN).below (zu S2).b lN)
   clear bb HS HT AW cN c0 c1 c2 c3 c4 c5
   cases f
   ·have hn:=place_none hp hf (zu AS)
    have F:=zh (show IsNetL x.b nos [] false from .inr ⟨fun kk=>by
     obtain⟨m,hm,_⟩:=kk.2.2.1 _ (mem_nos t)
     rw[zu hno] at hm
     exact hm.not hn,rfl,rfl⟩)
    have ve:=(zu E2).v 1 (by omega)
    have ve':=cell?_alloc_old (.cells #[] 67) ve
    have A9:=zh (ansL_no (a:=ad 1) (zu F) (zu S2).b)
    clear hn hp hf
    go_wp2_with fail
    go_region
    all_goals
     go_wp2
     go_ret2
     exact zu A9
   have KK:=zh (place_at hp hf)
   have tn:=(zu KK).1
   have nc:c<1048576:=by omega
   have TO:=zh ((zu OK).1.2.2.2.2.1.2 c tn).1
   have STT:=zh (show(el8 x.b.ts c).2.2.2.2.2.2.2≠1→IsNetL x.b nos [] false from fun hst=> .inr ⟨fun kk=>by
     obtain⟨m,hm,hs⟩:=kk.2.2.1 _ (mem_nos t)
     rw[zu hno] at hm
     rw[hm.same (zu KK)] at hs
     exact hst hs,rfl,rfl⟩)
   have OP:=zh (show(el8 x.b.ts c).2.2.2.2.2.2.2=1→AllOpen x.b.ts (nos.take (k+1)) from fun hst=>open_next t (zu HA) ⟨c,by rw[zu hno];exact zu KK,hst⟩)
   have TR:=zh (show legsOf x.b.ts (nos.take (k+1))=legsOf x.b.ts (nos.take k)++legsT (el8 x.b.ts c) from by
     rw[take_nos t,legs_append,zu hno]
     show _++(legsT (tradeNo x.b.ts no)++[])=_
     rw[trade_at (zu KK),List.append_nil])
   obtain⟨d0,d1,d2,d3,d4,d5,d6,d7⟩:=(zu S2).r.rt c tn
   have c4:=(zu S2).c.c4
   clear hp hf KK
   generalize el8 x.b.ts c=p at *
   obtain⟨p0,p1,p2,p3,p4,p5,p6,p7⟩:=p
   simp only at STT OP d0 d1 d2 d3 d4 d5 d6 d7
   by_cases s1:p7=1
   rotate_left
   ·have F:=zh ((zu STT) s1)
    have sb:(p7 !=1)=true:=SIssue.ne_true s1
    have ve:=(zu E2).v 2 (by omega)
    have ve':=cell?_alloc_old (.cells #[] 67) ve
    have A9:=zh (ansL_no (a:=ad 2) (zu F) (zu S2).b)
    clear s1
    go_wp2_with fail
    go_region
    all_goals
     go_wp2
     go_ret2
     exact zu A9
   have HA':=zh ((zu OP) s1)
   subst s1
   obtain⟨b1,h1⟩:=Bals.says_of (no∈nos.take k)
   have H1:=zh h1
   clear h1 STT OP HA
   go_wp2_with fail
   refine(Post.iHas u1 gN k capN (nos.take k) no b1 (by simp;omega) (by omega) (at_take (zu A2) k) (zu H1)).mono ?_
   rintro e u2 ⟨rfl,rfl⟩
   cases b1
   rotate_left
   ·have F:=zh (show IsNetL x.b nos [] false from .inr ⟨fun kk=>has_dup t (by rw[zu hno];exact(zu H1).yes) kk.2.2.2.1,rfl,rfl⟩)
    have ve:=(zu E2).v 2 (by omega)
    have ve':=cell?_alloc_old (.cells #[] 67) ve
    have A9:=zh (ansL_no (a:=ad 2) (zu F) (zu S2).b)
    go_wp2_with fail
    go_region
    all_goals
     go_wp2
     go_ret2
     exact zu A9
   have HD':=zh (nodup_next t (zu HD) (by rw[zu hno];exact(zu H1).no))
   have q1:0≤p4:=by have:=(zu TO).2.2.2.2.2.2.1.1;simp at this;omega
   have q2:p4≤1000000000000000:=(zu TO).2.2.2.2.2.2.1.2
   have r1:0≤p6:=(zu TO).2.2.2.2.2.2.2.1.1
   have r2:p6≤1000000000000000:=(zu TO).2.2.2.2.2.2.2.1.2
   have LA:=zh (fun l hl=>legsOf_amt (zu OK).1.2.2.2.2.1 (zu HA') l (by rw[zu TR];exact hl))
   have LL:=zh (show(legsOf x.b.ts (nos.take k)++legsT (p0,p1,p2,p3,p4,p5,p6,1)).length≤200 from by rw[←zu TR,legs_len,List.length_take];omega)
   have LN:=zh (legs_no (zu TO))
   clear HD H1
   go_wp2_with fail
   refine(ISet.iLegs _ p0 p1 p2 p3 p4 p5 p6 1 q1 q2 r1 r2).mono ?_
   rintro e u3 ⟨g3,c3,rfl,o3,bb⟩
   have S3:=zh ((zu S2).step bb)
   have T3:=zh ((zu T2).below bb)
   have O3:=zh o3
   clear bb o3 S2 T2 d0 d1 d2 d3 d4 d5 d6 d7 c4 A2 E2
   go_wp2_with fail
   refine(iAdd u3 _ B (4*k) g3 c3 (legsOf x.b.ts (nos.take k)) (legsT (p0,p1,p2,p3,p4,p5,p6,1)) (by show 4*k+4≤1000;omega) (zu T3) (zu O3) (zu LA) (zu LL) (zu LN)).mono ?_
   rintro e u4 ⟨rfl,t4,g4⟩
   have S4:=zh (St.grown (zu HR) (zu S3) g4 hB)
   have T4:=zh (show TabN.Tab u4 B (4*(k+1)) (sumK (legsOf x.b.ts (nos.take (k+1)))) from by rw[zu TR];exact t4)
   clear t4 g4 S3 T3 O3 LA LL LN
   go_wp2
   go_roundw
   case rel=>exact⟨k+1,by go_num,by omega,T4,HA',HD',S4⟩
   case measure=>simp[intOf];omega
  ·obtain rfl:k=nos.length:=by omega
   rw[List.take_length] at HT HA HD
   have CAN:=zh (show(∀a i,Amt (sumK (legsOf x.b.ts nos) a i))→CanNet x.b nos from fun h=>⟨zu OK,n30,zu HA,zu HD,h⟩)
   have E2:=zh ((zu HE).below (zu HS).b hN)
   have hs:=(zu HS).b.size
   go_wp2_with fail
   refine(iTold wr B (4*nos.length) N (sumK (legsOf x.b.ts nos)) ad (by omega) (zu HT) (zu E2) (by omega)).mono ?_
   rintro e u2 ⟨qs,g,c,v,ht,hl,rfl,o2,b2⟩
   have O2:=zh (o2.rebase (base':=w.heap.size) (by have:=o2.lt.1;omega))
   have B2:=zh ((zu HS).b.trans (b2.mono hs))
   have R:=zh (show ∃ok,IsNetL x.b nos qs ok∧NetV ok v from by
    rcases ht with⟨h1,h2,h3⟩|⟨h1,h2,h3⟩
    ·exact⟨true,.inl ⟨(zu CAN) h1,h2,rfl⟩,.inl ⟨rfl,h3⟩⟩
    ·exact⟨false,.inr ⟨fun kk=>h1 kk.2.2.2.2,h2,rfl⟩,.inr ⟨rfl,_,h3⟩⟩)
   clear ht o2 b2
   go_wp2
   go_ret2
   obtain⟨ok,h1,h2⟩:=zu R
   exact⟨qs,ok,v,g,c,h1,h2,by omega,rfl,zu O2,zu B2⟩
end NetLegsI
namespace NetA
open BMem Bks ILists BHelp Ans ICopied ICmdB Trd Net Errs IEnd NetLegsI
open Lots (Says says_of NoOk)
open Bals (T3 el3 Amt)
open Tup8 (T8 el8)
open Triples (Own3)
open SNetL (mem_nos)
theorem Errs.frt{w w':World}{n N g h:Nat}{a:Nat→Addr}(E:Errs w n N a)(k:Frt w w' g h)(hw:N≤w.heap.size)(hg:N≤g)(hh:N≤h):Errs w' n N a:=
 E.below (M:=N) ⟨k.os,k.tape,k.output,k.size,fun j hj=>k.block j (by omega) (by omega) (by omega)⟩ (Nat.le_refl _)
theorem at_frt{w w':World}{g h r:Nat}{xs:List Int}(A:Ints.At w r xs)(k:Frt w w' g h)(hr:r<w.heap.size)(h1:r≠g)(h2:r≠h):Ints.At w' r xs:=fun i hi=>
 (World.cell?_of_block (a:=⟨r,i,none⟩) (k.block r hr h1 h2)).trans (A i hi)
theorem own3_frt{w w':World}{e:TypeId}{base r n c g h:Nat}{xs:List T3}(O:Own3 e w base r n c xs)(k:Frt w w' g h)(h1:r≠g)(h2:r≠h):Own3 e w' base r n c xs:=by
 have lt:=O.lt.2
 refine⟨O.1,?_⟩
 rcases O.2 with⟨q,_⟩|⟨g',c',cur,q1,q2,q3,q4⟩
 ·simp at q
 ·obtain⟨e',_⟩:r=g'∧c=c':=by simpa using q1
  subst e'
  exact Or.inr ⟨r,c',cur,q1,q2,by rw[k.block r lt h1 h2];exact q3,q4⟩
theorem settle_code{b b':Bk}{no way g c:Int}(h:IsSettle b no way b' g c):c=0∨c=3∨c=6∨c=5∨c=7∨c=8:=by
 rcases h with⟨_,_,_,rfl⟩|⟨k,_,⟨_,_,_,rfl⟩|⟨_,b1,c1,⟨_,pc,_,hp⟩,⟨_,_,_,rfl⟩|⟨_,b2,k2,c2,ht,⟨_,_,_,rfl⟩|⟨_,b3,c3,ho,⟨_,_,_,rfl⟩|⟨_,_,_,rfl⟩⟩⟩⟩⟩
 ·omega
 ·omega
 ·rcases hp with⟨_,_,h⟩|⟨_,_,h⟩|⟨_,_,h⟩|⟨_,_,h⟩<;>omega
 ·rcases ht with⟨_,_,_,h⟩|⟨_,_,_,h⟩<;>omega
 ·rcases ho with⟨_,_,h⟩|⟨_,_,h⟩<;>omega
 ·omega
theorem ref_is(a:Nat→Addr){c:Int}(h:c=0∨c=3∨c=6∨c=5∨c=7∨c=8):∃v,IsRef a c v:=by
 rcases h with rfl|h
 ·exact⟨_,.inl ⟨rfl,rfl⟩⟩
 ·exact⟨_,ref_of a h⟩
theorem IsRef.kind{a:Nat→Addr}{c:Int}{v:Value}(h:IsRef a c v):(c=0∧v= .nilIface)∨(c≠0∧∃p,v= .iface 290 (.pointer (some p))):=by
 rcases h.at with⟨h1,h2⟩|⟨_,h1,h2⟩
 ·exact .inl ⟨h2,h1⟩
 ·exact .inr ⟨by omega,_,h1⟩
theorem drop_nos{xs:List Int}{k:Nat}(h:k<xs.length):xs.drop k=xs.getD k 0::xs.drop (k+1):=by
 rw[List.drop_eq_getElem_cons h]
 simp[List.getD,h]
def IsAll(b:Bk)(nos:List Int)(way:Int)(b':Bk)(t c:Int):Prop:=
 (∃b2 g c2,Net.Steps way nos b 0 b2 g c2∧c2≠0∧t=0∧c=c2)∨(∃b2 g,Net.Steps way nos b 0 b2 g 0∧((¬Amt g∧t=0∧c=8)∨(Amt g∧b'=b2∧t=g∧c=0)))
theorem iAll(u:World)(z:Bx)(base g gN capN N:Nat)(nos:List Int)(ad:Nat→Addr)(way:Int)(ok:Ok z.b)(V:Var u base g z)(O:Ow u (base+4) z)(hg:g<base+4)(n30:nos.length≤30)(lN:gN<u.heap.size)(nG:gN≠g)(nT:gN≠z.gt)(aN:Ints.At u gN nos)(E:Errs u 5 N ad)(hN:N≤base)(hB:base≤g):
  Calls Tryz.prog 104 #[.pointer (some ⟨g,0,none⟩),.slice (some ⟨gN,0,none⟩) nos.length capN,.int .i64 way] u fun e u'=>∃(b':Bk) (t c:Int) (v:Value),IsAll z.b nos way b' t c∧IsRef ad c v∧e= .returned (.tuple #[.int .i64 t,v])∧((c=0∧∃y,y.b=b'∧Var u' base g y∧Ow u' (base+4) y)∨(c≠0∧AnyBox u' base g))∧Frt u u' g z.gt:=by
 have tl:=O.ot.lt
 have AN:=zh aN
 have HE:=zh E
 have V0:=zh V
 have O0:=zh O
 have OK:=zh ok
 clear V O ok aN E
 go_enter Tryz.func104,Tryz.ntmps104
 go_wp2
 go_loopw [8,10,11,12,13,16] (fun a _ _ _ _ i wr=>∃(acc:Int) (k:Nat) (y:Bx),a= .int .i64 acc∧i= .int .i64 k∧k≤nos.length∧-(1000000000000000*(k:Int))≤acc∧acc≤1000000000000000*(k:Int)∧Hid (Ok y.b)∧Hid (∀b' g c,Net.Steps way (nos.drop k) y.b acc b' g c→Net.Steps way nos z.b 0 b' g c)∧Hid (Var wr base g y)∧Hid (Ow wr (base+4) y)∧Hid (y.gt=z.gt)∧Hid (Frt u wr g z.gt)) (fun _ _ _ _ _ i _=>nos.length-(intOf i).toNat)
 case atStart=>exact⟨0,0,z,rfl,rfl,by omega,by omega,by omega,OK,zh (fun b' g c h=>h),V0,O0,zh rfl,zh (Frt.refl _ _ _)⟩
 case round=>
  clear V0 O0
  obtain⟨acc,k,y,rfl,rfl,hk,ac1,ac2,HY,HS,HV,HO,HG,HF⟩:=hrel
  by_cases t:k<nos.length
  ·obtain⟨no,hno⟩:∃no,Hid (nos.getD k 0=no):=⟨_,rfl⟩
   have cN:wr.cell? ⟨gN,k,none⟩=some (.int .i64 no):=by rw[←zu hno];exact at_frt (zu AN) (zu HF) lN nG nT k t
   have DN:=zh (drop_nos t)
   rw[zu hno] at DN
   go_wp2_with fail
   refine(iEndTradeT wr y base g no 1 way (zu HY) (.inr rfl) (zu HV) (zu HO) hg).mono ?_
   rintro e u1 ⟨b1,t1,c1,hp,rfl,hz,fr⟩
   rw[zu HG] at fr hz
   have F1:=zh ((zu HF).trans fr)
   have E1:=zh (Errs.frt (zu HE) (zu F1) (by omega) (by omega) (by omega))
   have PP:=zh hp
   have HZ:=zh hz
   clear fr hz hp cN HF HV HO
   have CD:=zh (show c1=0∨c1=3∨c1=6∨c1=5∨c1=7∨c1=8 from by
    by_cases q:c1=0
    ·exact .inl q
    ·exact settle_code (settle_not (zu PP) q))
   obtain⟨v1,hv1⟩:=ref_is ad (zu CD)
   have RV:=zh hv1
   have KD:=IsRef.kind hv1
   clear hv1
   go_wp2_with fail
   refine(iRef u1 N ad c1 v1 (zu E1) (zu RV)).mono ?_
   rintro e u2 ⟨rfl,rfl⟩
   rcases KD with⟨rfl,rfl⟩|⟨c0,p,rfl⟩
   ·have ST:=zh (settle_done (zu PP))
    have GA:=gain_amt (zu HY) (zu ST)
    unfold Amt at GA
    have HY':=zh (Keep.ok_settle (zu HY) (zu ST))
    have HS':=zh (show ∀b' g c,Net.Steps way (nos.drop (k+1)) b1 (acc+t1) b' g c→Net.Steps way nos z.b 0 b' g c from fun b' g c h=>(zu HS) b' g c (by rw[zu DN];exact⟨b1,t1,0,zu ST,.inr ⟨rfl,h⟩⟩))
    have HX:=zh (show ∃y1:Bx,y1.b=b1∧Var u2 base g y1∧Ow u2 (base+4) y1∧y1.gt=z.gt from by
     rcases zu HZ with⟨_,h⟩|⟨h,_⟩
     ·exact h
     ·exact absurd rfl h)
    obtain⟨y1,hy1,vy,oy,gy⟩:=zu HX
    have V9:=zh vy
    have O9:=zh oy
    have G9:=zh gy
    have Y9:=zh hy1
    have HW:IntKind.i64.wrap (acc+t1)=acc+t1:=by rw[IntKind.wrap_i64]<;>omega
    have HY9:=zh (show Ok y1.b from by rw[zu Y9];exact zu HY')
    have HS9:=zh (show ∀b' g c,Net.Steps way (nos.drop (k+1)) y1.b (acc+t1) b' g c→Net.Steps way nos z.b 0 b' g c from by rw[zu Y9];exact zu HS')
    clear hy1 vy oy gy HX HZ HY' HS' HY HS HG
    go_wp2
    go_roundw
    case rel=>exact⟨acc+t1,k+1,y1,by go_num,by go_num,by omega,by omega,by omega,HY9,HS9,V9,O9,G9,F1⟩
    case measure=>simp[intOf];omega
   ·have ST:=zh (settle_not (zu PP) c0)
    have AB:=zh (show AnyBox u2 base g from by
     rcases zu HZ with⟨h,_⟩|⟨_,h⟩
     ·exact absurd h c0
     ·exact h)
    have RS:=zh (show Net.Steps way nos z.b 0 y.b 0 c1 from(zu HS) y.b 0 c1 (by rw[zu DN];exact⟨y.b,0,c1,zu ST,.inl ⟨c0,rfl,rfl,rfl⟩⟩))
    have C0:=zh c0
    clear c0 HZ
    go_wp2
    go_ret2
    exact⟨y.b,0,c1,_,.inl ⟨y.b,0,c1,zu RS,zu C0,rfl,rfl⟩,zu RV,rfl,.inr ⟨zu C0,zu AB⟩,zu F1⟩
  ·obtain rfl:k=nos.length:=by omega
   have RS:=zh (show Net.Steps way nos z.b 0 y.b acc 0 from(zu HS) y.b acc 0 (by rw[List.drop_length];exact⟨rfl,rfl,rfl⟩))
   obtain⟨b1,h1⟩:=Bals.says_of (Amt acc)
   have H1:=zh h1
   have E1:=zh (Errs.frt (zu HE) (zu HF) (by omega) (by omega) (by omega))
   have ve:=(zu E1).v 3 (by omega)
   clear h1
   go_wp2_with fail
   refine(Cmp.iAmt acc b1 _ (zu H1)).mono ?_
   rintro e v1 ⟨rfl,rfl⟩
   cases b1
   ·go_wp2_with fail
    go_quiet (fail)
    go_wp2
    go_ret2
    exact⟨y.b,0,8,_,.inr ⟨y.b,acc,zu RS,.inl ⟨(zu H1).no,rfl,rfl⟩⟩,ref_of ad (by omega),rfl,.inr ⟨by omega,Var.any (Box.below (zu HV) (Tup8.below_drewN (Below.refl _ _) _) (Box.lt (zu HV)).2)⟩,(zu HF).trans (Frt.below (Tup8.below_drewN (Below.refl _ _) _))⟩
   ·go_wp2
    go_ret2
    exact⟨y.b,acc,0,_,.inr ⟨y.b,acc,zu RS,.inr ⟨(zu H1).yes,rfl,rfl,rfl⟩⟩,.inl ⟨rfl,rfl⟩,rfl,.inl ⟨rfl,y,rfl,zu HV,zu HO⟩,zu HF⟩
def IsNetP(b:Bk)(nos:List Int)(way:Int)(b':Bk)(ls:List T3)(t c:Int):Prop:=
 (nos=[]∧ls=[]∧t=0∧c=3)∨(nos≠[]∧∃b2 g c2,Net.Steps way nos b 0 b2 g c2∧((c2≠0∧ls=[]∧t=0∧c=c2)∨(c2=0∧∃qs ok,IsNetL b nos qs ok∧((¬(ok=true∧Amt g)∧ls=[]∧t=0∧c=8)∨((ok=true∧Amt g)∧b'=b2∧ls=qs∧t=g∧c=0)))))
theorem net_not{b b':Bk}{nos:List Int}{way t c:Int}{qs:List T3}{ok:Bool}(hn:nos≠[])(h:IsAll b nos way b' t c)(hc:c≠0)(hI:IsNetL b nos qs ok):IsNetP b nos way b' [] 0 c:=by
 rcases h with⟨b2,g,c2,h1,h2,_,rfl⟩|⟨b2,g,h1,⟨h2,_,rfl⟩|⟨_,_,_,h⟩⟩
 ·exact .inr ⟨hn,b2,g,c,h1,.inl ⟨h2,rfl,rfl,rfl⟩⟩
 ·exact .inr ⟨hn,b2,g,0,h1,.inr ⟨rfl,qs,ok,hI,.inl ⟨fun k=>h2 k.2,rfl,rfl,rfl⟩⟩⟩
 ·exact absurd h hc
theorem net_yes{b b':Bk}{nos:List Int}{way t:Int}{qs:List T3}(hn:nos≠[])(h:IsAll b nos way b' t 0)(hI:IsNetL b nos qs true):IsNetP b nos way b' qs t 0:=by
 rcases h with⟨b2,g,c2,h1,h2,_,h⟩|⟨b2,g,h1,⟨h2,_,h⟩|⟨h2,h3,h4,_⟩⟩
 ·exact absurd h.symm h2
 ·exact absurd h (by decide)
 ·exact .inr ⟨hn,b2,g,0,h1,.inr ⟨rfl,qs,true,hI,.inr ⟨⟨rfl,h2⟩,h3,rfl,h4,rfl⟩⟩⟩
theorem net_large{b b' b3:Bk}{nos:List Int}{way t:Int}{qs:List T3}(hn:nos≠[])(h:IsAll b nos way b' t 0)(hI:IsNetL b nos qs false):IsNetP b nos way b3 [] 0 8:=by
 rcases h with⟨b2,g,c2,h1,h2,_,h⟩|⟨b2,g,h1,⟨h2,_,h⟩|⟨h2,h3,h4,_⟩⟩
 ·exact absurd h.symm h2
 ·exact absurd h (by decide)
 ·exact .inr ⟨hn,b2,g,0,h1,.inr ⟨rfl,qs,false,hI,.inl ⟨fun k=>absurd k.1 (by decide),rfl,rfl,rfl⟩⟩⟩
def AnsP(z:Bx)(nos:List Int)(ad:Nat→Addr)(way:Int)(base g:Nat)(u:World)(e:Ending)(u':World):Prop:=
 ∃(b':Bk) (ls:List T3) (t c:Int) (v:Value) (gL cL:Nat),IsNetP z.b nos way b' ls t c∧IsRef ad c v∧ls.length≤120∧e= .returned (.tuple #[.slice (some ⟨gL,0,none⟩) ls.length cL,.int .i64 t,v])∧Own3 67 u' (base+4) gL ls.length cL ls∧((c=0∧∃y,y.b=b'∧Var u' base g y∧Ow u' (base+4) y)∨(c≠0∧AnyBox u' base g))∧Frt u u' g z.gt
theorem any_below{u u':World}{base g:Nat}(h:AnyBox u base g)(k:Below u.heap.size u u'):AnyBox u' base g:=by
 obtain⟨a0,a1,a2,a3,a4,n0,n1,n2,n3,n4,k0,k1,k2,k3,k4,l,v⟩:=h
 exact⟨a0,a1,a2,a3,a4,n0,n1,n2,n3,n4,k0,k1,k2,k3,k4,l,v.below k v.lt.2⟩
theorem ansP_no{z:Bx}{nos:List Int}{ad:Nat→Addr}{way:Int}{base g:Nat}{u W:World}{b':Bk}{c:Int}{v:Value}(h:IsNetP z.b nos way b' [] 0 c)(hr:IsRef ad c v)(hc:c≠0)(hb:base+4≤W.heap.size)(ha:AnyBox W base g)(k:Frt u W g z.gt):
  AnsP z nos ad way base g u (.returned (.tuple #[.slice (some ⟨W.heap.size,0,none⟩) 0 0,.int .i64 0,v])) (W.alloc (.cells #[] 67)):=
 ⟨b',[],0,c,v,W.heap.size,0,h,hr,by simp,rfl,Triples.lit30 67 W (base+4) hb,.inr ⟨hc,any_below ha (IBalsFit.one_more _ _)⟩,k.trans (Frt.below (IBalsFit.one_more _ _))⟩
theorem AnsP.drew{z:Bx}{nos:List Int}{ad:Nat→Addr}{way:Int}{base g:Nat}{u W:World}{e:Ending}(h:AnsP z nos ad way base g u e W):AnsP z nos ad way base g u e W.drew:=by
 obtain⟨b',ls,t,c,v,gL,cL,h1,h2,h3,h4,h5,h6,h7⟩:=h
 refine⟨b',ls,t,c,v,gL,cL,h1,h2,h3,h4,h5.below (Below.refl _ _).drew h5.lt.2,?_,h7.trans (Frt.below (Below.refl _ _).drew)⟩
 rcases h6 with⟨a,y,b,c,d⟩|⟨a,b⟩
 ·exact .inl ⟨a,y,b,Box.below c (Below.refl _ _).drew (Box.lt c).2,ow_drew d⟩
 ·exact .inr ⟨a,any_below b (Below.refl _ _).drew⟩
theorem iNet(u:World)(z:Bx)(base g gN capN N:Nat)(nos:List Int)(ad:Nat→Addr)(way:Int)(ok:Ok z.b)(V:Var u base g z)(O:Ow u (base+4) z)(hg:g<base+4)(n30:nos.length≤30)(hc:nos.length≤capN)(hc2:capN≤9223372036854775807)(lN:gN<u.heap.size)(nG:gN≠g)(nT:gN≠z.gt)(aN:Ints.At u gN nos)(E:Errs u 5 N ad)(hN:N≤base)(hB:base≤g):
  Calls Tryz.prog 59 #[.pointer (some ⟨g,0,none⟩),.slice (some ⟨gN,0,none⟩) nos.length capN,.int .i64 way] u (AnsP z nos ad way base g u):=by
 have tl:=O.ot.lt
 have gl:=(Box.lt V).2
 have AN:=zh aN
 have HE:=zh E
 have V0:=zh V
 have O0:=zh O
 have OK:=zh ok
 clear V O ok aN E
 by_cases e0:nos.length=0
 ·have eb:((nos.length:Int)==0)=true:=by rw[e0];rfl
  have P0:=zh (show IsNetP z.b nos way z.b [] 0 3 from .inl ⟨List.eq_nil_of_length_eq_zero e0,rfl,rfl,rfl⟩)
  have A9:=zh (AnsP.drew (ansP_no (u:=u) (W:=u) (zu P0) (ref_of ad (d:=3) (by omega)) (by omega) (by omega) (Var.any (zu V0)) (Frt.refl _ _ _)))
  have ve:=(zu HE).v 1 (by omega)
  have ve':=cell?_alloc_old (.cells #[] 67) ve
  clear e0
  go_enter Tryz.func59,Tryz.ntmps59
  go_wp2_with fail
  go_region
  all_goals
   go_wp2
   go_ret3
   exact zu A9
 have eb:((nos.length:Int)==0)=false:=SIssue.eq_false (by omega)
 have NE:=zh (show nos≠[] from fun h=>e0 (by rw[h];rfl))
 clear e0
 obtain⟨c0,c1,c2,c3,c4,c5⟩:u.cell? ⟨g,0,none⟩=some (.slice (some ⟨z.ga,0,none⟩) z.b.ac.length z.ca)∧u.cell? ⟨g,1,none⟩=some (.slice (some ⟨z.gi,0,none⟩) z.b.ic.length z.ci)∧u.cell? ⟨g,2,none⟩=some (.slice (some ⟨z.gb,0,none⟩) z.b.bs.length z.cb)∧u.cell? ⟨g,3,none⟩=some (.slice (some ⟨z.gl,0,none⟩) z.b.ls.length z.cl)∧u.cell? ⟨g,4,none⟩=some (.slice (some ⟨z.gt,0,none⟩) z.b.ts.length z.ct)∧u.cell? ⟨g,5,none⟩=some (.int .i64 z.b.lot):=⟨Box.c0 (zu V0),Box.c1 (zu V0),Box.c2 (zu V0),Box.c3 (zu V0),Box.c4 (zu V0),Box.c5 (zu V0)⟩
 go_enter Tryz.func59,Tryz.ntmps59
 go_wp2_with fail
 refine(iNetL u z gN capN N nos ad (zu OK) ((zu O0).rd (ok_small (zu OK))) hc hc2 lN (zu AN) ((zu HE).less (by omega)) (by omega)).mono ?_
 rintro e u1 ⟨qs,okb,v,gL,cL,hI,hV,hq,rfl,oL,bb⟩
 have HI:=zh hI
 have OL:=zh oL
 have B1:=zh bb
 have V1:=zh (Box.below (zu V0) bb gl)
 have O1:=zh ((zu O0).below bb (Nat.le_refl _))
 have s1:=bb.size
 have gL1:=oL.lt.1
 clear hI oL bb c0 c1 c2 c3 c4 c5
 go_wp2_with fail
 refine(iAll u1 z base g gN capN N nos ad way (zu OK) (zu V1) (zu O1) hg n30 (by omega) nG nT ((zu AN).below (zu B1) lN) ((zu HE).below (zu B1) (by omega)) hN hB).mono ?_
 rintro e u2 ⟨b',t,c,v2,hA,hR,rfl,hz,fr⟩
 have FR:=zh ((Frt.below (g:=g) (h:=z.gt) (zu B1)).trans fr)
 have OL2:=zh (own3_frt (zu OL) fr (by omega) (by omega))
 have HA:=zh hA
 have RF:=zh hR
 have HZ:=zh hz
 have KD:=IsRef.kind hR
 have s2:=fr.size
 clear hA hR hz fr V1 O1 OL
 rcases KD with⟨rfl,rfl⟩|⟨cn,p,rfl⟩
 ·rcases hV with⟨rfl,rfl⟩|⟨rfl,a,rfl⟩
  ·have P9:=zh (net_yes (zu NE) (zu HA) (zu HI))
   have HY:=zh (show ∃y,y.b=b'∧Var u2 base g y∧Ow u2 (base+4) y from by
    rcases zu HZ with⟨_,h⟩|⟨h,_⟩
    ·exact h
    ·exact absurd rfl h)
   clear HZ
   go_wp2
   go_ret3
   exact⟨b',qs,t,0,_,gL,cL,zu P9,zu RF,hq,rfl,(zu OL2).rebase (by omega),.inl ⟨rfl,zu HY⟩,zu FR⟩
  ·have P9:=zh (net_large (b3:=z.b) (zu NE) (zu HA) (zu HI))
   have AB:=zh (show AnyBox u2 base g from by
    rcases zu HZ with⟨_,y,_,h,_⟩|⟨h,_⟩
    ·exact Var.any h
    ·exact absurd rfl h)
   have E2:=zh (Errs.frt (zu HE) (zu FR) (by omega) (by omega) (by omega))
   have ve:=(zu E2).v 3 (by omega)
   have ve':=cell?_alloc_old (.cells #[] 67) ve
   have A9:=zh (AnsP.drew (ansP_no (zu P9) (ref_of ad (d:=8) (by omega)) (by omega) (by omega) (zu AB) (zu FR)))
   go_wp2_with fail
   go_region
   all_goals
    go_wp2
    go_ret3
    exact zu A9
 ·have P9:=zh (net_not (zu NE) (zu HA) cn (zu HI))
  have AB:=zh (show AnyBox u2 base g from by
   rcases zu HZ with⟨h,_⟩|⟨_,h⟩
   ·exact absurd h cn
   ·exact h)
  have A9:=zh (ansP_no (zu P9) (zu RF) cn (by omega) (zu AB) (zu FR))
  clear cn
  go_wp2
  go_ret3
  exact zu A9
end NetA
namespace NetTellI
open BMem Bks ILists BHelp Ans ICopied ICmdB IHave ICmdF ICmdL Trd Net NetA Errs IEnd
open SIssue (six_alloc box_six_alloc to_wb off_box)
open IBalsFit (one_more all_one)
open ITrade (at_new)
open Lots (Says says_of NoOk)
open Bals (T3 Amt)
open Triples (Own3)
open IssueTellI (says_and more)
open SNet (ToldW AnsN)
theorem hold3{u u1:World}{base:Nat}{p1 p2 p3:Addr}{lo hi fk:Int}(b:Below u.heap.size u u1)(q1:p1.block<base)(q2:p2.block<base)(q3:p3.block<base)(h1:u.cell? p1=some (.int .i64 lo))(h2:u.cell? p2=some (.int .i64 hi))(h3:u.cell? p3=some (.int .i64 fk))(hb:base≤u.heap.size):u1.cell? p1=some (.int .i64 lo)∧u1.cell? p2=some (.int .i64 hi)∧u1.cell? p3=some (.int .i64 fk):=
 ⟨(b.cell (by omega)).trans h1,(b.cell (by omega)).trans h2,(b.cell (by omega)).trans h3⟩
theorem hold3f{u u1:World}{base g h:Nat}{p1 p2 p3:Addr}{lo hi fk:Int}(b:Frt u u1 g h)(q1:p1.block<base)(q2:p2.block<base)(q3:p3.block<base)(r1:p1.block≠g)(r2:p2.block≠g)(r3:p3.block≠g)(h1:u.cell? p1=some (.int .i64 lo))(h2:u.cell? p2=some (.int .i64 hi))(h3:u.cell? p3=some (.int .i64 fk))(hb:base≤u.heap.size)(hh:base≤h):u1.cell? p1=some (.int .i64 lo)∧u1.cell? p2=some (.int .i64 hi)∧u1.cell? p3=some (.int .i64 fk):=
 ⟨(World.cell?_of_block (b.block _ (by omega) r1 (by omega))).trans h1,(World.cell?_of_block (b.block _ (by omega) r2 (by omega))).trans h2,(World.cell?_of_block (b.block _ (by omega) r3 (by omega))).trans h3⟩
theorem set_grown(W:World)(b:Nat)(v:Value):W.grownBy (W.setCell ⟨b,0,none⟩ v) (some b):=
 ⟨rfl,rfl,rfl,by simp[World.setCell],fun k _ hk=>Below.heap_setCell _ _ _ k (fun e=>hk (by rw[e]))⟩
theorem set_same{u u':World}{L:Nat}(h:u'.heap[L]?=u.heap[L]?)(v:Value):(u'.setCell ⟨L,0,none⟩ v).heap[L]?=(u.setCell ⟨L,0,none⟩ v).heap[L]?:=by
 simp[World.setCell,Array.getElem?_modify,h]
theorem frm_set{u u2:World}{base g gt L:Nat}(k:Frt u u2 g gt)(hu:base+4≤u.heap.size)(hL:L<base)(ht:base+4≤gt)(v:Value)(hg:L≠g):ICmdW.Frm (u.setCell ⟨L,0,none⟩ v) (u2.setCell ⟨L,0,none⟩ v) base g:=by
 refine⟨k.os,k.tape,k.output,by simpa[World.setCell] using k.size,fun j hj hn=>?_⟩
 by_cases e:j=L
 ·subst e
  exact set_same (k.block j (by omega) hn (by omega)) v
 ·rw[Below.heap_setCell _ _ _ _ e,Below.heap_setCell _ _ _ _ e]
  exact k.block j (by omega) hn (by omega)
abbrev oK0:Oper:={dst:=some 12,op:=Go.Op.move (Go.Operand.tmp 0),type:=98,pos:= "l08_net.go:20",after:= #[],guard:=none}
abbrev oK1:Oper:={dst:=some 13,op:=Go.Op.move (Go.Operand.tmp 0),type:=98,pos:= "l08_net.go:20",after:= #[],guard:=none}
abbrev oK2:Oper:={dst:=some 14,op:=Go.Op.nilCheck (Go.Operand.tmp 13),type:=0,pos:= "l08_net.go:20",after:= #[{on:=1,ground:=Go.Ground.data}],guard:=none}
abbrev oK3:Oper:={dst:=some 15,op:=Go.Op.load 40 (Go.Operand.tmp 14),type:=40,pos:= "l08_net.go:20",after:= #[{on:=2,ground:=Go.Ground.data}],guard:=none}
abbrev oK4:Oper:={dst:=some 16,op:=Go.Op.load 3 (Go.Operand.tmp 1),type:=3,pos:= "l08_net.go:20",after:= #[],guard:=none}
abbrev oK5:Oper:={dst:=some 17,op:=Go.Op.load 3 (Go.Operand.tmp 2),type:=3,pos:= "l08_net.go:20",after:= #[],guard:=none}
abbrev oK6:Oper:={dst:=some 18,op:=Go.Op.call {callee:=Go.Callee.value (Go.Operand.func 60),args:= #[Go.Operand.tmp 15,Go.Operand.tmp 16,Go.Operand.tmp 17],argTypes:= #[40,3,3]},type:=29,pos:= "l08_net.go:20",after:= #[{on:=3,ground:=Go.Ground.data},{on:=4,ground:=Go.Ground.data},{on:=5,ground:=Go.Ground.data}],guard:=none}
abbrev oK7:Oper:={dst:=some 19,op:=Go.Op.load 3 (Go.Operand.tmp 3),type:=3,pos:= "l08_net.go:20",after:= #[],guard:=none}
abbrev oK8:Oper:={dst:=some 20,op:=Go.Op.call {callee:=Go.Callee.value (Go.Operand.func 59),args:= #[Go.Operand.tmp 12,Go.Operand.tmp 18,Go.Operand.tmp 19],argTypes:= #[98,29,3]},type:=99,pos:= "l08_net.go:20",after:= #[{on:=0,ground:=Go.Ground.data},{on:=6,ground:=Go.Ground.data},{on:=7,ground:=Go.Ground.data},{on:=6,ground:=Go.Ground.chain}],guard:=none}
abbrev oK9:Oper:={dst:=some 11,op:=Go.Op.move (Go.Operand.tmp 20),type:=99,pos:= "l08_net.go:20",after:= #[{on:=8,ground:=Go.Ground.data}],guard:=none}
abbrev oK10:Oper:={dst:=some 21,op:=Go.Op.extract (Go.Operand.tmp 11) 0,type:=31,pos:= "l08_net.go:20",after:= #[{on:=9,ground:=Go.Ground.data}],guard:=none}
abbrev oK11:Oper:={dst:=some 22,op:=Go.Op.extract (Go.Operand.tmp 11) 1,type:=3,pos:= "l08_net.go:20",after:= #[{on:=9,ground:=Go.Ground.data},{on:=13,ground:=Go.Ground.gcOnly Go.Departure.lateStores}],guard:=none}
abbrev oK12:Oper:={dst:=some 23,op:=Go.Op.extract (Go.Operand.tmp 11) 2,type:=77,pos:= "l08_net.go:20",after:= #[{on:=9,ground:=Go.Ground.data},{on:=14,ground:=Go.Ground.gcOnly Go.Departure.lateStores}],guard:=none}
abbrev oK13:Oper:={dst:=some 8,op:=Go.Op.assign (Go.Operand.tmp 21),type:=31,pos:= "l08_net.go:20",after:= #[{on:=10,ground:=Go.Ground.data},{on:=8,ground:=Go.Ground.chain},{on:=0,ground:=Go.Ground.phase},{on:=1,ground:=Go.Ground.phase},{on:=2,ground:=Go.Ground.phase},{on:=3,ground:=Go.Ground.phase},{on:=4,ground:=Go.Ground.phase},{on:=5,ground:=Go.Ground.phase},{on:=6,ground:=Go.Ground.phase},{on:=7,ground:=Go.Ground.phase},{on:=8,ground:=Go.Ground.phase},{on:=9,ground:=Go.Ground.phase},{on:=10,ground:=Go.Ground.phase},{on:=11,ground:=Go.Ground.textOnly Go.Departure.lateStores},{on:=12,ground:=Go.Ground.textOnly Go.Departure.lateStores}],guard:=none}
abbrev oK14:Oper:={dst:=some 9,op:=Go.Op.assign (Go.Operand.tmp 22),type:=3,pos:= "l08_net.go:20",after:= #[{on:=11,ground:=Go.Ground.data},{on:=13,ground:=Go.Ground.chain},{on:=0,ground:=Go.Ground.phase},{on:=1,ground:=Go.Ground.phase},{on:=2,ground:=Go.Ground.phase},{on:=3,ground:=Go.Ground.phase},{on:=4,ground:=Go.Ground.phase},{on:=5,ground:=Go.Ground.phase},{on:=6,ground:=Go.Ground.phase},{on:=7,ground:=Go.Ground.phase},{on:=8,ground:=Go.Ground.phase},{on:=9,ground:=Go.Ground.phase},{on:=10,ground:=Go.Ground.phase},{on:=11,ground:=Go.Ground.phase},{on:=12,ground:=Go.Ground.textOnly Go.Departure.lateStores},{on:=13,ground:=Go.Ground.phase}],guard:=none}
abbrev oK15:Oper:={dst:=some 10,op:=Go.Op.assign (Go.Operand.tmp 23),type:=77,pos:= "l08_net.go:20",after:= #[{on:=12,ground:=Go.Ground.data},{on:=14,ground:=Go.Ground.chain},{on:=0,ground:=Go.Ground.phase},{on:=1,ground:=Go.Ground.phase},{on:=2,ground:=Go.Ground.phase},{on:=3,ground:=Go.Ground.phase},{on:=4,ground:=Go.Ground.phase},{on:=5,ground:=Go.Ground.phase},{on:=6,ground:=Go.Ground.phase},{on:=7,ground:=Go.Ground.phase},{on:=8,ground:=Go.Ground.phase},{on:=9,ground:=Go.Ground.phase},{on:=10,ground:=Go.Ground.phase},{on:=11,ground:=Go.Ground.phase},{on:=12,ground:=Go.Ground.phase},{on:=13,ground:=Go.Ground.phase},{on:=14,ground:=Go.Ground.phase}],guard:=none}
theorem iClosure(u:World)(z:Bx)(base g N L:Nat)(p1 p2 p3:Addr)(lo hi fk:Int)(ad:Nat→Addr)(v0:Value)(h1:u.cell? p1=some (.int .i64 lo))(h2:u.cell? p2=some (.int .i64 hi))(h3:u.cell? p3=some (.int .i64 fk))(q1:p1.block<base)(q2:p2.block<base)(q3:p3.block<base)(hL:u.heap[L]?=some (.cells #[v0] 31 (0,0)))(lL:L<base)(nL:N≤L)(ok:Ok z.b)(V:Var u base g z)(O:Ow u (base+4) z)(hg:g<base+4)(hB:base≤g)(E:Errs u 5 N ad):
  Calls Tryz.prog 58 #[.pointer (some ⟨g,0,none⟩),.pointer (some p1),.pointer (some p2),.pointer (some p3),.pointer (some ⟨L,0,none⟩)] u fun e u'=>∃(b':Bk) (ls:List T3) (t c:Int) (gL cL:Nat),IsNetP z.b (openT lo hi z.b.ts) fk b' ls t c∧ls.length≤120∧e= .returned (.tuple #[.int .i64 t,.int .i64 c])∧Own3 67 u' (base+4) gL ls.length cL ls∧((c=0∧∃y,y.b=b'∧Var u' base g y∧Ow u' (base+4) y)∨(c≠0∧AnyBox u' base g))∧ICmdW.Frm (u.setCell ⟨L,0,none⟩ (.slice (some ⟨gL,0,none⟩) ls.length cL)) u' base g:=by
 have gl:=(Box.lt V).2
 have tl:=O.ot.lt
 have hN:N≤base:=by omega
 have r1:p1.block≠g:=by omega
 have r2:p2.block≠g:=by omega
 have r3:p3.block≠g:=by omega
 have VU:=zh V
 have OU:=zh O
 have OK:=zh ok
 have HE:=zh E
 have HL:=zh hL
 have K4:u.drew.cell? p1=some (.int .i64 lo)∧u.drew.cell? p2=some (.int .i64 hi)∧u.drew.cell? p3=some (.int .i64 fk):=⟨h1,h2,h3⟩
 obtain⟨c0,c1,c2,c3,c4,c5⟩:u.drew.cell? ⟨g,0,none⟩=some (.slice (some ⟨z.ga,0,none⟩) z.b.ac.length z.ca)∧u.drew.cell? ⟨g,1,none⟩=some (.slice (some ⟨z.gi,0,none⟩) z.b.ic.length z.ci)∧u.drew.cell? ⟨g,2,none⟩=some (.slice (some ⟨z.gb,0,none⟩) z.b.bs.length z.cb)∧u.drew.cell? ⟨g,3,none⟩=some (.slice (some ⟨z.gl,0,none⟩) z.b.ls.length z.cl)∧u.drew.cell? ⟨g,4,none⟩=some (.slice (some ⟨z.gt,0,none⟩) z.b.ts.length z.ct)∧u.drew.cell? ⟨g,5,none⟩=some (.int .i64 z.b.lot):=⟨Box.c0 V,Box.c1 V,Box.c2 V,Box.c3 V,Box.c4 V,Box.c5 V⟩
 clear V O ok E hL
 go_enter Tryz.func58,Tryz.ntmps58
 go_wp2_with fail
 refine wp_region_held_drew (S:=(fun w'=>w'.cell? p1=some (.int .i64 lo)∧w'.cell? p2=some (.int .i64 hi)∧w'.cell? p3=some (.int .i64 fk))) (by kernel_rfl) K4 (fun hHeld=>?_)
 refine tk 0 oK0 (.pointer (some ⟨g,0,none⟩)) rfl (by kernel_rfl) (fun _ _ _ h=>h) (by rfl) (fun w hSw=>?_) hHeld ?_
 ·(try dsimp only at hSw)
  unfold oK0
  go_simp
 try simp only[oK0,Act.put,zA,zB,zC]
 refine tk 1 oK1 (.pointer (some ⟨g,0,none⟩)) rfl (by kernel_rfl) (fun _ _ _ h=>h) (by rfl) (fun w hSw=>?_) hHeld ?_
 ·(try dsimp only at hSw)
  unfold oK1
  go_simp
 try simp only[oK1,Act.put,zA,zB,zC]
 refine tk 2 oK2 (.pointer (some ⟨g,0,none⟩)) rfl (by kernel_rfl) (fun _ _ _ h=>h) (by rfl) (fun w hSw=>?_) hHeld ?_
 ·(try dsimp only at hSw)
  unfold oK2
  go_simp
 try simp only[oK2,Act.put,zA,zB,zC]
 refine tk 4 oK4 (.int .i64 lo) rfl (by kernel_rfl) (fun _ _ _ h=>h) (by rfl) (fun w hSw=>?_) hHeld ?_
 ·(try dsimp only at hSw)
  unfold oK4
  go_simp
 try simp only[oK4,Act.put,zA,zB,zC]
 refine tk 5 oK5 (.int .i64 hi) rfl (by kernel_rfl) (fun _ _ _ h=>h) (by rfl) (fun w hSw=>?_) hHeld ?_
 ·(try dsimp only at hSw)
  unfold oK5
  go_simp
 try simp only[oK5,Act.put,zA,zB,zC]
 refine tk 7 oK7 (.int .i64 fk) rfl (by kernel_rfl) (fun _ _ _ h=>h) (by rfl) (fun w hSw=>?_) hHeld ?_
 ·(try dsimp only at hSw)
  unfold oK7
  go_simp
 try simp only[oK7,Act.put,zA,zB,zC]
 refine wpAnyH_ready (rs:=[3]) (by kernel_rfl) (by simp) ?_
 refine AllReadyH.cons (o:=oK3) rfl (fun K hK=>?_) AllReadyH.nil
 unfold oK3
 go_simp
 refine hK.out _ _ K4 (fun hHeld=>?_)
 clear hK K
 try simp only[oK3,Act.put,zA,zB,zC]
 refine wpAnyH_ready (rs:=[6]) (by kernel_rfl) (by simp) ?_
 refine AllReadyH.cons (o:=oK6) rfl (fun K hK=>?_) AllReadyH.nil
 unfold oK6
 go_simp
 refine(TradesOpenI.iTradesOpen u.drew z lo hi (((zu OU).rd (ok_small (zu OK))).below (Below.refl _ _).drew)).mono ?_
 rintro e u1 ⟨xs,gT,cT,hxs,xl,rfl,oT,bb⟩
 have XS:=zh (show xs=openT lo hi z.b.ts from by
  rcases hxs with⟨_,h⟩|⟨h,_⟩
  ·exact h
  ·exact absurd (zu OK) h)
 have bW:=zh (show Below u.heap.size u u1 from ILotsFit.below_of_drew bb)
 have OT:=zh oT
 have K5:=hold3 (zu bW) q1 q2 q3 h1 h2 h3 (by omega)
 have s1:=bb.size
 clear hxs oT bb
 go_wp2_with fail
 refine hK.out _ _ K5 (fun hHeld=>?_)
 clear hK K
 try simp only[oK6,Act.put,zA,zB,zC]
 refine wpAnyH_ready (rs:=[8]) (by kernel_rfl) (by simp) ?_
 refine AllReadyH.cons (o:=oK8) rfl (fun K hK=>?_) AllReadyH.nil
 unfold oK8
 go_simp
 refine(iNet u1 z base g gT cT N xs ad fk (zu OK) (Box.below (zu VU) (zu bW) gl) ((zu OU).below (zu bW) (Nat.le_refl _)) hg (by have:=(zu OK).1.2.2.2.2.1.1;omega) (SNet.own_cap (zu OT)).1 (by have:=(SNet.own_cap (zu OT)).2;unfold maxLen at this;omega) (zu OT).lt.2 (by have:=(zu OT).lt.1;simp at this;omega) (by have:=(zu OT).lt.1;simp at this;omega) (zu OT).at ((zu HE).below (zu bW) (by omega)) hN hB).mono ?_
 rintro e u2 ⟨b',ls,t,c,v,gL,cL,hP,hR,l120,rfl,oL,hz,fr⟩
 have FR:=zh ((Frt.below (g:=g) (h:=z.gt) (zu bW)).trans fr)
 have PP:=zh hP
 have RR:=zh hR
 have OL:=zh oL
 have HZ:=zh hz
 have K6:=hold3f (zu FR) q1 q2 q3 r1 r2 r3 h1 h2 h3 (by omega) (by omega)
 clear hP hR oL hz fr
 go_wp2_with fail
 refine hK.out _ _ K6 (fun hHeld=>?_)
 clear hK K
 try simp only[oK8,Act.put,zA,zB,zC]
 refine tk 9 oK9 (.tuple #[(.slice (some ⟨gL,0,none⟩) ls.length cL),.int .i64 t,v]) rfl (by kernel_rfl) (fun _ _ _ h=>h) (by rfl) (fun w hSw=>?_) hHeld ?_
 ·(try dsimp only at hSw)
  unfold oK9
  go_simp
 try simp only[oK9,Act.put,zA,zB,zC]
 refine tk 10 oK10 ((.slice (some ⟨gL,0,none⟩) ls.length cL)) rfl (by kernel_rfl) (fun _ _ _ h=>h) (by rfl) (fun w hSw=>?_) hHeld ?_
 ·(try dsimp only at hSw)
  unfold oK10
  go_simp
 try simp only[oK10,Act.put,zA,zB,zC]
 refine tk 11 oK11 (.int .i64 t) rfl (by kernel_rfl) (fun _ _ _ h=>h) (by rfl) (fun w hSw=>?_) hHeld ?_
 ·(try dsimp only at hSw)
  unfold oK11
  go_simp
 try simp only[oK11,Act.put,zA,zB,zC]
 refine tk 12 oK12 v rfl (by kernel_rfl) (fun _ _ _ h=>h) (by rfl) (fun w hSw=>?_) hHeld ?_
 ·(try dsimp only at hSw)
  unfold oK12
  go_simp
 try simp only[oK12,Act.put,zA,zB,zC]
 refine tk 13 oK13 ((.slice (some ⟨gL,0,none⟩) ls.length cL)) rfl (by kernel_rfl) (fun _ _ _ h=>h) (by rfl) (fun w hSw=>?_) hHeld ?_
 ·(try dsimp only at hSw)
  unfold oK13
  go_simp
 try simp only[oK13,Act.put,zA,zB,zC]
 refine tk 14 oK14 (.int .i64 t) rfl (by kernel_rfl) (fun _ _ _ h=>h) (by rfl) (fun w hSw=>?_) hHeld ?_
 ·(try dsimp only at hSw)
  unfold oK14
  go_simp
 try simp only[oK14,Act.put,zA,zB,zC]
 refine tk 15 oK15 v rfl (by kernel_rfl) (fun _ _ _ h=>h) (by rfl) (fun w hSw=>?_) hHeld ?_
 ·(try dsimp only at hSw)
  unfold oK15
  go_simp
 try simp only[oK15,Act.put,zA,zB,zC]
 refine wpAnyH_done (by kernel_rfl) ?_ _
 clear K4 K5 K6 c0 c1 c2 c3 c4 c5
 have gL0:=(zu OL).lt
 have HL2:=zh (show u2.heap[L]?=some (.cells #[v0] 31 (0,0)) from by rw[(zu FR).block L (by omega) (by omega) (by omega)];exact zu HL)
 have lc:u2.cell? ⟨L,0,none⟩=some v0:=by simp[World.cell?,zu HL2]
 have lf:u2.frozen? ⟨L,0,none⟩=false:=by simp[World.frozen?,zu HL2]
 have G3:=zh (set_grown u2 L (.slice (some ⟨gL,0,none⟩) ls.length cL))
 have E2:=zh (Errs.frt (zu HE) (zu FR) (by omega) (by omega) (by omega))
 have E3:=zh ((zu E2).grown (zu G3) nL)
 go_wp2_with fail
 refine(iCode _ N ad c v (zu E3) (zu RR)).mono ?_
 rintro e u4 ⟨rfl,hu⟩
 have nn:some g≠some L:=fun e=>by injection e;omega
 have O9:=zh ((zu OL).kept (zu G3) (fun e=>by injection e;omega))
 have Z9:=zh (show(c=0∧∃y,y.b=b'∧Var (u2.setCell ⟨L,0,none⟩ (.slice (some ⟨gL,0,none⟩) ls.length cL)) base g y∧Ow (u2.setCell ⟨L,0,none⟩ (.slice (some ⟨gL,0,none⟩) ls.length cL)) (base+4) y)∨(c≠0∧AnyBox (u2.setCell ⟨L,0,none⟩ (.slice (some ⟨gL,0,none⟩) ls.length cL)) base g) from by
  rcases zu HZ with⟨a,y,b,v,o⟩|⟨a,b0,b1,b2,b3,b4,n0,n1,n2,n3,n4,k0,k1,k2,k3,k4,l,v⟩
  ·exact .inl ⟨a,y,b,Box.kept v (zu G3) nn,LawN.ow_off o (zu G3) (off_lo (ow_lo o) (by omega))⟩
  ·exact .inr ⟨a,b0,b1,b2,b3,b4,n0,n1,n2,n3,n4,k0,k1,k2,k3,k4,l,Box.kept v (zu G3) nn⟩)
 have F9:=zh (show ICmdW.Frm (u.setCell ⟨L,0,none⟩ (.slice (some ⟨gL,0,none⟩) ls.length cL)) (u2.setCell ⟨L,0,none⟩ (.slice (some ⟨gL,0,none⟩) ls.length cL)) base g from frm_set (zu FR) (by omega) lL (by omega) _ (by omega))
 rw[←hu] at O9 Z9 F9
 have ZZ:=zh (zu Z9)
 clear hu HZ
 go_wp2
 go_ret2
 exact⟨b',ls,t,c,gL,cL,by rw[←zu XS];exact zu PP,l120,rfl,zu O9,zu Z9,zu F9⟩
theorem boxc{w:World}{base g:Nat}{v0 v1 v2 v3 v4 v5:Value}(h:Box w base g v0 v1 v2 v3 v4 v5):w.cell? ⟨g,0,none⟩=some v0∧w.cell? ⟨g,1,none⟩=some v1∧w.cell? ⟨g,2,none⟩=some v2∧w.cell? ⟨g,3,none⟩=some v3∧w.cell? ⟨g,4,none⟩=some v4∧w.cell? ⟨g,5,none⟩=some v5:=⟨h.c0,h.c1,h.c2,h.c3,h.c4,h.c5⟩
theorem boxf{w:World}{base g:Nat}{v0 v1 v2 v3 v4 v5:Value}(h:Box w base g v0 v1 v2 v3 v4 v5):w.frozen? ⟨g,0,none⟩=false∧w.frozen? ⟨g,1,none⟩=false∧w.frozen? ⟨g,2,none⟩=false∧w.frozen? ⟨g,3,none⟩=false∧w.frozen? ⟨g,4,none⟩=false∧w.frozen? ⟨g,5,none⟩=false:=⟨h.free 0,h.free 1,h.free 2,h.free 3,h.free 4,h.free 5⟩
structure TN(w W:World)(x:Bx)(lo hi fk:Int)(va:Value):Prop where
 r:Rd W x
 c:Cl W w.heap.size x
 n1:W.cell? ⟨w.heap.size+1,0,none⟩=some (.int .i64 lo)
 n2:W.cell? ⟨w.heap.size+1+1,0,none⟩=some (.int .i64 hi)
 n3:W.cell? ⟨w.heap.size+1+1+1,0,none⟩=some (.int .i64 fk)
 v:Box W w.heap.size (w.heap.size+1+1+1+1) (.slice none 0 0) (.slice none 0 0) (.slice none 0 0) (.slice none 0 0) (.slice none 0 0) (.int .i64 0)
 l:W.heap[w.heap.size+1+1+1+1+1+1]?=some (.cells #[va] 31 (0,0))
 b:Below w.heap.size w W
theorem TN.lt{w W:World}{x:Bx}{lo hi fk:Int}{v:Value}(h:TN w W x lo hi fk v):w.heap.size+1+1+1+1+1+1<W.heap.size:=(Array.getElem?_eq_some_iff.1 h.l).1
theorem TN.kept{w W W':World}{x:Bx}{lo hi fk:Int}{v:Value}{p:Nat}(H:Rd w x)(h:TN w W x lo hi fk v)(k:W.grownBy W' (some p))(hp:w.heap.size+1+1+1+1+1+1<p):TN w W' x lo hi fk v:=by
 have l:=h.lt
 have q0:some (w.heap.size)≠some p:=fun e=>by injection e;omega
 have q1:some (w.heap.size+1)≠some p:=fun e=>by injection e;omega
 have q2:some (w.heap.size+1+1)≠some p:=fun e=>by injection e;omega
 have q3:some (w.heap.size+1+1+1)≠some p:=fun e=>by injection e;omega
 have q4:some (w.heap.size+1+1+1+1)≠some p:=fun e=>by injection e;omega
 have q6:some (w.heap.size+1+1+1+1+1+1)≠some p:=fun e=>by injection e;omega
 have b:Below w.heap.size w W':=h.b.grown k h.b.size (fun j e=>by injection e;omega)
 exact⟨H.below b,⟨k.cell h.c.c0 q0,k.cell h.c.c1 q0,k.cell h.c.c2 q0,k.cell h.c.c3 q0,k.cell h.c.c4 q0,k.cell h.c.c5 q0⟩,k.cell h.n1 q1,k.cell h.n2 q2,k.cell h.n3 q3,Box.kept h.v k q4,(k.block _ l q6).trans h.l,b⟩
theorem TN.step{w W W':World}{x:Bx}{lo hi fk:Int}{v:Value}(h:TN w W x lo hi fk v)(k:Below W.heap.size W W'):TN w W' x lo hi fk v:=by
 have l:=h.lt
 exact⟨h.r.below k,h.c.below k (by omega),(k.cell (p:=⟨w.heap.size+1,0,none⟩) (by simp<;>omega)).trans h.n1,(k.cell (p:=⟨w.heap.size+1+1,0,none⟩) (by simp<;>omega)).trans h.n2,(k.cell (p:=⟨w.heap.size+1+1+1,0,none⟩) (by simp<;>omega)).trans h.n3,h.v.below k (by omega),(k.block _ l).trans h.l,h.b.trans (k.mono h.b.size)⟩
theorem TN.set{w W:World}{x:Bx}{lo hi fk:Int}{v:Value}(H:Rd w x)(h:TN w W x lo hi fk v)(u:Value):TN w (W.setCell ⟨w.heap.size+1+1+1+1+1+1,0,none⟩ u) x lo hi fk u:=by
 have k:=set_grown W (w.heap.size+1+1+1+1+1+1) u
 have q0:some (w.heap.size)≠some (w.heap.size+1+1+1+1+1+1):=fun e=>by injection e;omega
 have q1:some (w.heap.size+1)≠some (w.heap.size+1+1+1+1+1+1):=fun e=>by injection e;omega
 have q2:some (w.heap.size+1+1)≠some (w.heap.size+1+1+1+1+1+1):=fun e=>by injection e;omega
 have q3:some (w.heap.size+1+1+1)≠some (w.heap.size+1+1+1+1+1+1):=fun e=>by injection e;omega
 have q4:some (w.heap.size+1+1+1+1)≠some (w.heap.size+1+1+1+1+1+1):=fun e=>by injection e;omega
 have b:Below w.heap.size w (W.setCell ⟨w.heap.size+1+1+1+1+1+1,0,none⟩ u):=h.b.grown k h.b.size (fun j e=>by injection e;omega)
 exact⟨H.below b,⟨k.cell h.c.c0 q0,k.cell h.c.c1 q0,k.cell h.c.c2 q0,k.cell h.c.c3 q0,k.cell h.c.c4 q0,k.cell h.c.c5 q0⟩,k.cell h.n1 q1,k.cell h.n2 q2,k.cell h.n3 q3,Box.kept h.v k q4,by simp[World.setCell,Array.getElem?_modify,h.l],b⟩
theorem TN.start{w:World}{x:Bx}{lo hi fk:Int}(h:Rd w x):TN w (((((((w.alloc (.cells #[.slice (some ⟨x.ga,0,none⟩) x.b.ac.length x.ca,.slice (some ⟨x.gi,0,none⟩) x.b.ic.length x.ci,.slice (some ⟨x.gb,0,none⟩) x.b.bs.length x.cb,.slice (some ⟨x.gl,0,none⟩) x.b.ls.length x.cl,.slice (some ⟨x.gt,0,none⟩) x.b.ts.length x.ct,.int .i64 x.b.lot] 40)).alloc (.cells #[.int .i64 lo] 3)).alloc (.cells #[.int .i64 hi] 3)).alloc (.cells #[.int .i64 fk] 3)).alloc (.cells #[.slice none 0 0,.slice none 0 0,.slice none 0 0,.slice none 0 0,.slice none 0 0,.int .i64 0] 40)).alloc (.cells #[] 67)).alloc (.cells #[.slice (some ⟨w.heap.size+1+1+1+1+1,0,none⟩) 0 0] 31)) x lo hi fk (.slice (some ⟨w.heap.size+1+1+1+1+1,0,none⟩) 0 0):=by
 have b:Below w.heap.size w (((((((w.alloc (.cells #[.slice (some ⟨x.ga,0,none⟩) x.b.ac.length x.ca,.slice (some ⟨x.gi,0,none⟩) x.b.ic.length x.ci,.slice (some ⟨x.gb,0,none⟩) x.b.bs.length x.cb,.slice (some ⟨x.gl,0,none⟩) x.b.ls.length x.cl,.slice (some ⟨x.gt,0,none⟩) x.b.ts.length x.ct,.int .i64 x.b.lot] 40)).alloc (.cells #[.int .i64 lo] 3)).alloc (.cells #[.int .i64 hi] 3)).alloc (.cells #[.int .i64 fk] 3)).alloc (.cells #[.slice none 0 0,.slice none 0 0,.slice none 0 0,.slice none 0 0,.slice none 0 0,.int .i64 0] 40)).alloc (.cells #[] 67)).alloc (.cells #[.slice (some ⟨w.heap.size+1+1+1+1+1,0,none⟩) 0 0] 31)):=((((((Below.refl w.heap.size w).alloc (Nat.le_refl _) _).alloc (by simp) _).alloc (by simp<;>omega) _).alloc (by simp<;>omega) _).alloc (by simp<;>omega) _).alloc (by simp<;>omega) _|>.alloc (by simp<;>omega) _
 have b1:Below (w.heap.size+1) (w.alloc (.cells #[.slice (some ⟨x.ga,0,none⟩) x.b.ac.length x.ca,.slice (some ⟨x.gi,0,none⟩) x.b.ic.length x.ci,.slice (some ⟨x.gb,0,none⟩) x.b.bs.length x.cb,.slice (some ⟨x.gl,0,none⟩) x.b.ls.length x.cl,.slice (some ⟨x.gt,0,none⟩) x.b.ts.length x.ct,.int .i64 x.b.lot] 40)) (((((((w.alloc (.cells #[.slice (some ⟨x.ga,0,none⟩) x.b.ac.length x.ca,.slice (some ⟨x.gi,0,none⟩) x.b.ic.length x.ci,.slice (some ⟨x.gb,0,none⟩) x.b.bs.length x.cb,.slice (some ⟨x.gl,0,none⟩) x.b.ls.length x.cl,.slice (some ⟨x.gt,0,none⟩) x.b.ts.length x.ct,.int .i64 x.b.lot] 40)).alloc (.cells #[.int .i64 lo] 3)).alloc (.cells #[.int .i64 hi] 3)).alloc (.cells #[.int .i64 fk] 3)).alloc (.cells #[.slice none 0 0,.slice none 0 0,.slice none 0 0,.slice none 0 0,.slice none 0 0,.int .i64 0] 40)).alloc (.cells #[] 67)).alloc (.cells #[.slice (some ⟨w.heap.size+1+1+1+1+1,0,none⟩) 0 0] 31)):=((((((Below.refl _ _).alloc (by simp) _).alloc (by simp<;>omega) _).alloc (by simp<;>omega) _).alloc (by simp<;>omega) _).alloc (by simp<;>omega) _).alloc (by simp<;>omega) _
 refine⟨h.below b,(boxed w x 40).below b1 (by omega),?_,?_,?_,?_,?_,b⟩
 ·exact cell?_alloc_old _ (cell?_alloc_old _ (cell?_alloc_old _ (cell?_alloc_old _ (cell?_alloc_old _ (cell_new _ _ _ (by simp))))))
 ·exact cell?_alloc_old _ (cell?_alloc_old _ (cell?_alloc_old _ (cell?_alloc_old _ (cell_new _ _ _ (by simp)))))
 ·exact cell?_alloc_old _ (cell?_alloc_old _ (cell?_alloc_old _ (cell_new _ _ _ (by simp))))
 ·exact World.ownsRow.alloc (World.ownsRow.alloc (Box.made _ _ _ _ _ _ (by simp<;>omega) (by simp)) _) _
 ·have q:=heap_alloc_new (((((((w.alloc (.cells #[.slice (some ⟨x.ga,0,none⟩) x.b.ac.length x.ca,.slice (some ⟨x.gi,0,none⟩) x.b.ic.length x.ci,.slice (some ⟨x.gb,0,none⟩) x.b.bs.length x.cb,.slice (some ⟨x.gl,0,none⟩) x.b.ls.length x.cl,.slice (some ⟨x.gt,0,none⟩) x.b.ts.length x.ct,.int .i64 x.b.lot] 40)).alloc (.cells #[.int .i64 lo] 3)).alloc (.cells #[.int .i64 hi] 3)).alloc (.cells #[.int .i64 fk] 3)).alloc (.cells #[.slice none 0 0,.slice none 0 0,.slice none 0 0,.slice none 0 0,.slice none 0 0,.int .i64 0] 40)).alloc (.cells #[] 67))) (.cells #[.slice (some ⟨w.heap.size+1+1+1+1+1,0,none⟩) 0 0] 31)
  simpa only[World.size_alloc] using q
theorem TN.hold{w W:World}{x:Bx}{lo hi fk:Int}{v:Value}(h:TN w W x lo hi fk v):W.cell? ⟨w.heap.size,0,none⟩=some (.slice (some ⟨x.ga,0,none⟩) x.b.ac.length x.ca)∧W.cell? ⟨w.heap.size,1,none⟩=some (.slice (some ⟨x.gi,0,none⟩) x.b.ic.length x.ci)∧W.cell? ⟨w.heap.size,2,none⟩=some (.slice (some ⟨x.gb,0,none⟩) x.b.bs.length x.cb)∧W.cell? ⟨w.heap.size,3,none⟩=some (.slice (some ⟨x.gl,0,none⟩) x.b.ls.length x.cl)∧W.cell? ⟨w.heap.size,4,none⟩=some (.slice (some ⟨x.gt,0,none⟩) x.b.ts.length x.ct)∧W.cell? ⟨w.heap.size,5,none⟩=some (.int .i64 x.b.lot)∧W.cell? ⟨w.heap.size+1,0,none⟩=some (.int .i64 lo)∧W.cell? ⟨w.heap.size+1+1,0,none⟩=some (.int .i64 hi)∧W.cell? ⟨w.heap.size+1+1+1,0,none⟩=some (.int .i64 fk):=⟨h.c.c0,h.c.c1,h.c.c2,h.c.c3,h.c.c4,h.c.c5,h.n1,h.n2,h.n3⟩
def NP(W:World)(x:Bx)(lo hi fk:Int)(L:Nat)(w1 u':World)(b':Bk)(t c:Int):Prop:=
 ∃(ls:List T3) (gL cL:Nat),w1=W.setCell ⟨L,0,none⟩ (.slice (some ⟨gL,0,none⟩) ls.length cL)∧IsNetP x.b (openT lo hi x.b.ts) fk b' ls t c∧ls.length≤120∧Own3 67 u' (W.heap.size+4) gL ls.length cL ls
theorem alt_set{W u:World}{L:Nat}(b:Below W.heap.size W u)(hL:L<W.heap.size)(v:Value):Alt W (W.setCell ⟨L,0,none⟩ v) u (u.setCell ⟨L,0,none⟩ v):=by
 have ws:(W.setCell ⟨L,0,none⟩ v).heap.size=W.heap.size:=by simp[World.setCell]
 refine⟨ws,by simp[World.setCell],fun j hj=>Below.heap_setCell _ _ _ _ (by show j≠L;omega),b.os,b.tape,b.output,by simpa[World.setCell] using b.size,fun j hj=>?_⟩
 rw[ws] at hj
 by_cases e:j=L
 ·subst e
  exact set_same (b.block j hj) v
 ·rw[Below.heap_setCell _ _ _ _ e,Below.heap_setCell _ _ _ _ e]
  exact b.block j hj
def Frl(W W':World)(L:Nat):Prop:=W.heap.size≤W'.heap.size∧∀j,j<W.heap.size→j≠L→W'.heap[j]?=W.heap[j]?
theorem box_frl{W W':World}{L base g:Nat}{v0 v1 v2 v3 v4 v5:Value}(h:Box W base g v0 v1 v2 v3 v4 v5)(k:Frl W W' L)(hg:g≠L):Box W' base g v0 v1 v2 v3 v4 v5:=by
 have lt:=h.lt.2
 refine⟨h.1,?_⟩
 rcases h.2 with⟨q,_⟩|⟨g',c',cur,q1,q2,q3,q4⟩
 ·simp at q
 ·obtain⟨e',_⟩:g=g'∧1=c':=by simpa using q1
  subst e'
  exact Or.inr ⟨g,c',cur,q1,q2,by rw[k.2 g lt hg];exact q3,q4⟩
theorem own3_kept{W W':World}{e:TypeId}{base r n c B:Nat}{xs:List T3}(O:Own3 e W base r n c xs)(k:Kept B W W')(h1:B≤r):Own3 e W' base r n c xs:=by
 have lt:=O.lt.2
 refine⟨O.1,?_⟩
 rcases O.2 with⟨q,_⟩|⟨g',c',cur,q1,q2,q3,q4⟩
 ·simp at q
 ·obtain⟨e',_⟩:r=g'∧c=c':=by simpa using q1
  subst e'
  exact Or.inr ⟨r,c',cur,q1,q2,by rw[k.2 r h1 lt];exact q3,q4⟩
theorem fin_net{w W w3:World}{x:Bx}{lo hi fk:Int}{g0:Nat}{told:Prop}{e:Ending}(H:Rd w x)(T:TN w W x lo hi fk (.slice (some ⟨g0,0,none⟩) 0 0))(o0:Own3 67 W w.heap.size g0 0 0 [])(h:AnsX told x.b (NP W x lo hi fk (w.heap.size+1+1+1+1+1+1)) W e w3):
  ∃(a0 a1 a2 a3 a4:Option Addr) (n0 n1 n2 n3 n4 j0 j1 j2 j3 j4:Nat) (l t c:Int) (ls:List T3) (gL cL:Nat),e= .returned (.tuple #[.agg #[.slice a0 n0 j0,.slice a1 n1 j1,.slice a2 n2 j2,.slice a3 n3 j3,.slice a4 n4 j4,.int .i64 l],.int .i64 t,.int .i64 c])∧TN w w3 x lo hi fk (.slice (some ⟨gL,0,none⟩) ls.length cL)∧Own3 67 w3 w.heap.size gL ls.length cL ls∧ls.length≤120∧(¬told→ls=[])∧Fin told x.b (fun b' t c=>IsNetP x.b (openT lo hi x.b.ts) fk b' ls t c) w.heap.size a0 a1 a2 a3 a4 n0 n1 n2 n3 n4 j0 j1 j2 j3 j4 l t c w3∧Frl W w3 (w.heap.size+1+1+1+1+1+1):=by
 have lt:=T.lt
 have bs:=T.b.size
 rcases h with⟨N,rfl,bb⟩|⟨T0,w1,u',sz,kp,ac⟩
 ·exact⟨none,none,none,none,none,0,0,0,0,0,0,0,0,0,0,0,0,1,[],g0,0,rfl,T.step bb,o0.below bb o0.lt.2,by simp,fun _=>rfl,.inl ⟨N,⟨rfl,rfl,rfl,rfl,rfl,rfl,rfl,rfl,rfl,rfl,rfl,rfl,rfl,rfl,rfl,rfl⟩,rfl,rfl⟩,bb.size,fun j hj _=>bb.block j hj⟩
 ·have key:∀(z:Bx) (b':Bk) (t' t c:Int),NP W x lo hi fk (w.heap.size+1+1+1+1+1+1) w1 u' b' t' c→Ow w3 w1.heap.size z→Below w1.heap.size w1 w3→((c=0∧z.b=b'∧t=t')∨(c≠0∧z.b=x.b∧t=0))→∃(ls:List T3) (gL cL:Nat),TN w w3 x lo hi fk (.slice (some ⟨gL,0,none⟩) ls.length cL)∧Own3 67 w3 w.heap.size gL ls.length cL ls∧ls.length≤120∧(¬told→ls=[])∧Fin told x.b (fun b' t c=>IsNetP x.b (openT lo hi x.b.ts) fk b' ls t c) w.heap.size (some ⟨z.ga,0,none⟩) (some ⟨z.gi,0,none⟩) (some ⟨z.gb,0,none⟩) (some ⟨z.gl,0,none⟩) (some ⟨z.gt,0,none⟩) z.b.ac.length z.b.ic.length z.b.bs.length z.b.ls.length z.b.ts.length z.ca z.ci z.cb z.cl z.ct z.b.lot t c w3∧Frl W w3 (w.heap.size+1+1+1+1+1+1):=by
   rintro z b' t' t c ⟨ls,gL,cL,rfl,hP,l120,oL⟩ oz bb hh
   have T1:=(T.set H (.slice (some ⟨gL,0,none⟩) ls.length cL)).step bb
   refine⟨ls,gL,cL,T1,(own3_kept oL kp oL.lt.1).rebase (by have:=oL.lt.1;omega),l120,fun n=>absurd T0 n,.inr ⟨T0,z,b',t',hP,⟨rfl,rfl,rfl,rfl,rfl,rfl,rfl,rfl,rfl,rfl,rfl,rfl,rfl,rfl,rfl,rfl⟩,hh,oz.rebase (by rw[sz];omega)⟩,?_,fun j hj hn=>?_⟩
   ·have:=bb.size;omega
   ·rw[bb.block j (by omega)]
    exact Below.heap_setCell _ _ _ _ hn
  rcases ac with⟨N,_⟩|⟨_,b',t,c,z,hP,⟨h1,h2,rfl⟩|⟨h1,h2,rfl⟩,oz,bb⟩
  ·exact absurd T0 N
  ·obtain⟨ls,gL,cL,q⟩:=key z b' t t c hP oz bb (.inl ⟨h1,h2,rfl⟩)
   exact⟨_,_,_,_,_,_,_,_,_,_,_,_,_,_,_,_,t,c,ls,gL,cL,rfl,q⟩
  ·obtain⟨ls,gL,cL,q⟩:=key z b' t 0 c hP oz bb (.inr ⟨h1,h2,rfl⟩)
   exact⟨_,_,_,_,_,_,_,_,_,_,_,_,_,_,_,_,0,c,ls,gL,cL,rfl,q⟩
theorem own3_drew{W:World}{e:TypeId}{base g n c:Nat}{xs:List T3}(h:Own3 e W base g n c xs):Own3 e W.drew base g n c xs:=h.below (Below.refl _ _).drew h.lt.2
theorem net_done{b b':Bk}{lo hi fk t:Int}{ls:List T3}(h:IsNetP b (openT lo hi b.ts) fk b' ls t 0):IsNet b lo hi fk b' ls t 0:=by
 rcases h with⟨_,_,_,h⟩|⟨h0,b2,g,c2,h1,⟨h2,_,_,h⟩|⟨h2,qs,ok,h3,⟨_,_,_,h⟩|⟨h4,h5,h6,h7,_⟩⟩⟩
 ·exact absurd h (by decide)
 ·exact absurd h.symm h2
 ·exact absurd h (by decide)
 ·exact .inr ⟨h0,b2,g,c2,h1,.inr ⟨h2,qs,ok,h3,.inr ⟨h4,h5,h6,h7,rfl⟩⟩⟩
theorem net_ref{b b':Bk}{lo hi fk t c:Int}{ls:List T3}(h:IsNetP b (openT lo hi b.ts) fk b' ls t c)(hc:c≠0):IsNet b lo hi fk b ls 0 c:=by
 rcases h with⟨h0,h1,_,h⟩|⟨h0,b2,g,c2,h1,⟨h2,h3,_,h⟩|⟨h2,qs,ok,h3,⟨h4,h5,_,h⟩|⟨_,_,_,_,h⟩⟩⟩
 ·exact .inl ⟨h0,rfl,h1,rfl,h⟩
 ·exact .inr ⟨h0,b2,g,c2,h1,.inl ⟨h2,rfl,h3,rfl,h⟩⟩
 ·exact .inr ⟨h0,b2,g,c2,h1,.inr ⟨h2,qs,ok,h3,.inl ⟨h4,rfl,h5,rfl,h⟩⟩⟩
 ·exact absurd h hc
theorem fin_ansN{w W:World}{x:Bx}{lo hi fk:Int}{a0 a1 a2 a3 a4:Option Addr}{n0 n1 n2 n3 n4 j0 j1 j2 j3 j4:Nat}{l t c:Int}{ls:List T3}{gL cL:Nat}(h:Fin (((NoOk lo∧NoOk hi)∧(1≤fk∧fk≤3))∧Ok x.b) x.b (fun b' t c=>IsNetP x.b (openT lo hi x.b.ts) fk b' ls t c) w.heap.size a0 a1 a2 a3 a4 n0 n1 n2 n3 n4 j0 j1 j2 j3 j4 l t c W)(ln:¬(((NoOk lo∧NoOk hi)∧(1≤fk∧fk≤3))∧Ok x.b)→ls=[])(l120:ls.length≤120)(O:Own3 67 W w.heap.size gL ls.length cL ls)(B:Below w.heap.size w W):
  AnsN (ToldW x.b lo hi fk) (IsNet x.b lo hi fk) w (.returned (.tuple #[.agg #[.slice a0 n0 j0,.slice a1 n1 j1,.slice a2 n2 j2,.slice a3 n3 j3,.slice a4 n4 j4,.int .i64 l],(.slice (some ⟨gL,0,none⟩) ls.length cL),.int .i64 t,.int .i64 c])) W:=by
 rcases h with⟨N,⟨rfl,rfl,rfl,rfl,rfl,rfl,rfl,rfl,rfl,rfl,rfl,rfl,rfl,rfl,rfl,rfl⟩,rfl,rfl⟩|⟨T,z,b',t',hP,⟨rfl,rfl,rfl,rfl,rfl,rfl,rfl,rfl,rfl,rfl,rfl,rfl,rfl,rfl,rfl,rfl⟩,⟨rfl,rfl,rfl⟩|⟨hc,hz,rfl⟩,oz⟩
 ·obtain rfl:=ln N
  exact .inl ⟨fun k=>N ⟨⟨⟨k.2.1,k.2.2.1⟩,k.2.2.2⟩,k.1⟩,gL,cL,rfl,O,B⟩
 ·exact .inr ⟨⟨T.2,T.1.1.1,T.1.1.2,T.1.2⟩,z,ls,t,0,gL,cL,net_done hP,l120,rfl,oz,O,B⟩
 ·exact .inr ⟨⟨T.2,T.1.1.1,T.1.1.2,T.1.2⟩,z,ls,0,c,gL,cL,by rw[hz];exact net_ref hP hc,l120,rfl,oz,O,B⟩
abbrev oN0:Oper:={dst:=some 18,op:=Go.Op.load 40 (Go.Operand.tmp 4),type:=40,pos:= "l08_net.go:19",after:= #[],guard:=none}
abbrev oN1:Oper:={dst:=some 19,op:=Go.Op.load 3 (Go.Operand.tmp 5),type:=3,pos:= "l08_net.go:19",after:= #[],guard:=none}
abbrev oN2:Oper:={dst:=some 20,op:=Go.Op.load 3 (Go.Operand.tmp 6),type:=3,pos:= "l08_net.go:19",after:= #[],guard:=none}
abbrev oN3:Oper:={dst:=some 21,op:=Go.Op.buildSlice 29 2 #[(0,Go.Operand.tmp 19),(1,Go.Operand.tmp 20)],type:=29,pos:= "l08_net.go:19",after:= #[{on:=1,ground:=Go.Ground.data},{on:=2,ground:=Go.Ground.data}],guard:=none}
abbrev oN4:Oper:={dst:=some 22,op:=Go.Op.call {callee:=Go.Callee.value (Go.Operand.func 56),args:= #[Go.Operand.tmp 21],argTypes:= #[29]},type:=4,pos:= "l08_net.go:19",after:= #[{on:=3,ground:=Go.Ground.data}],guard:=none}
abbrev oN5:Oper:={dst:=some 23,op:=Go.Op.move (Go.Operand.tmp 22),type:=4,pos:= "l08_net.go:19",after:= #[{on:=4,ground:=Go.Ground.data},{on:=4,ground:=Go.Ground.chain}],guard:=none}
abbrev oN6:Oper:={dst:=some 24,op:=Go.Op.load 3 (Go.Operand.tmp 7),type:=3,pos:= "l08_net.go:19",after:= #[{on:=5,ground:=Go.Ground.guard}],guard:=some (5,true)}
abbrev oN7:Oper:={dst:=some 25,op:=Go.Op.call {callee:=Go.Callee.value (Go.Operand.func 57),args:= #[Go.Operand.tmp 24],argTypes:= #[3]},type:=4,pos:= "l08_net.go:19",after:= #[{on:=6,ground:=Go.Ground.data},{on:=5,ground:=Go.Ground.chain},{on:=5,ground:=Go.Ground.guard}],guard:=some (5,true)}
abbrev oN8:Oper:={dst:=some 26,op:=Go.Op.pick (Go.Operand.tmp 23) (Go.Operand.tmp 25) (Go.Operand.const (Go.Value.bool false)),type:=4,pos:= "l08_net.go:19",after:= #[{on:=5,ground:=Go.Ground.data},{on:=7,ground:=Go.Ground.data}],guard:=none}
abbrev oN9:Oper:={dst:=some 27,op:=Go.Op.makeFunc (Go.Fn.func 58) #[] #[Go.Operand.tmp 5,Go.Operand.tmp 6,Go.Operand.tmp 7,Go.Operand.tmp 12],type:=102,pos:= "l08_net.go:19",after:= #[],guard:=none}
abbrev oN10:Oper:={dst:=some 28,op:=Go.Op.call {callee:=Go.Callee.value (Go.Operand.func 55),args:= #[Go.Operand.tmp 18,Go.Operand.tmp 26,Go.Operand.tmp 27],argTypes:= #[40,4,102]},type:=94,pos:= "l08_net.go:19",after:= #[{on:=0,ground:=Go.Ground.data},{on:=8,ground:=Go.Ground.data},{on:=9,ground:=Go.Ground.data},{on:=7,ground:=Go.Ground.chain}],guard:=none}
abbrev oN11:Oper:={dst:=some 17,op:=Go.Op.move (Go.Operand.tmp 28),type:=94,pos:= "l08_net.go:19",after:= #[{on:=10,ground:=Go.Ground.data}],guard:=none}
abbrev oN12:Oper:={dst:=some 29,op:=Go.Op.extract (Go.Operand.tmp 17) 0,type:=40,pos:= "l08_net.go:19",after:= #[{on:=11,ground:=Go.Ground.data}],guard:=none}
abbrev oN13:Oper:={dst:=some 30,op:=Go.Op.extract (Go.Operand.tmp 17) 1,type:=3,pos:= "l08_net.go:19",after:= #[{on:=11,ground:=Go.Ground.data},{on:=16,ground:=Go.Ground.gcOnly Go.Departure.lateStores}],guard:=none}
abbrev oN14:Oper:={dst:=some 31,op:=Go.Op.extract (Go.Operand.tmp 17) 2,type:=3,pos:= "l08_net.go:19",after:= #[{on:=11,ground:=Go.Ground.data},{on:=17,ground:=Go.Ground.gcOnly Go.Departure.lateStores}],guard:=none}
abbrev oN15:Oper:={dst:=some 13,op:=Go.Op.alloc 40,type:=0,pos:= "l08_net.go:19",after:= #[],guard:=none}
abbrev oN16:Oper:={dst:=none,op:=Go.Op.store 40 (Go.Operand.tmp 13) (Go.Operand.tmp 29),type:=0,pos:= "l08_net.go:19",after:= #[{on:=15,ground:=Go.Ground.data},{on:=12,ground:=Go.Ground.data},{on:=10,ground:=Go.Ground.chain},{on:=0,ground:=Go.Ground.phase},{on:=1,ground:=Go.Ground.phase},{on:=2,ground:=Go.Ground.phase},{on:=3,ground:=Go.Ground.phase},{on:=4,ground:=Go.Ground.phase},{on:=5,ground:=Go.Ground.phase},{on:=6,ground:=Go.Ground.phase},{on:=7,ground:=Go.Ground.phase},{on:=8,ground:=Go.Ground.phase},{on:=9,ground:=Go.Ground.phase},{on:=10,ground:=Go.Ground.phase},{on:=11,ground:=Go.Ground.phase},{on:=12,ground:=Go.Ground.phase},{on:=13,ground:=Go.Ground.textOnly Go.Departure.lateStores},{on:=14,ground:=Go.Ground.textOnly Go.Departure.lateStores},{on:=15,ground:=Go.Ground.phase}],guard:=none}
abbrev oN17:Oper:={dst:=some 14,op:=Go.Op.assign (Go.Operand.tmp 30),type:=3,pos:= "l08_net.go:19",after:= #[{on:=13,ground:=Go.Ground.data},{on:=16,ground:=Go.Ground.chain},{on:=0,ground:=Go.Ground.phase},{on:=1,ground:=Go.Ground.phase},{on:=2,ground:=Go.Ground.phase},{on:=3,ground:=Go.Ground.phase},{on:=4,ground:=Go.Ground.phase},{on:=5,ground:=Go.Ground.phase},{on:=6,ground:=Go.Ground.phase},{on:=7,ground:=Go.Ground.phase},{on:=8,ground:=Go.Ground.phase},{on:=9,ground:=Go.Ground.phase},{on:=10,ground:=Go.Ground.phase},{on:=11,ground:=Go.Ground.phase},{on:=12,ground:=Go.Ground.phase},{on:=13,ground:=Go.Ground.phase},{on:=14,ground:=Go.Ground.textOnly Go.Departure.lateStores},{on:=15,ground:=Go.Ground.phase},{on:=16,ground:=Go.Ground.phase}],guard:=none}
abbrev oN18:Oper:={dst:=some 15,op:=Go.Op.assign (Go.Operand.tmp 31),type:=3,pos:= "l08_net.go:19",after:= #[{on:=14,ground:=Go.Ground.data},{on:=17,ground:=Go.Ground.chain},{on:=0,ground:=Go.Ground.phase},{on:=1,ground:=Go.Ground.phase},{on:=2,ground:=Go.Ground.phase},{on:=3,ground:=Go.Ground.phase},{on:=4,ground:=Go.Ground.phase},{on:=5,ground:=Go.Ground.phase},{on:=6,ground:=Go.Ground.phase},{on:=7,ground:=Go.Ground.phase},{on:=8,ground:=Go.Ground.phase},{on:=9,ground:=Go.Ground.phase},{on:=10,ground:=Go.Ground.phase},{on:=11,ground:=Go.Ground.phase},{on:=12,ground:=Go.Ground.phase},{on:=13,ground:=Go.Ground.phase},{on:=14,ground:=Go.Ground.phase},{on:=15,ground:=Go.Ground.phase},{on:=16,ground:=Go.Ground.phase},{on:=17,ground:=Go.Ground.phase}],guard:=none}
theorem iTell(w:World)(x:Bx)(lo hi fk:Int)(N:Nat)(ad:Nat→Addr)(h:Rd w x)(E:Errs w 5 N ad)(hN:N≤w.heap.size):
  Calls Tryz.prog 18 #[.agg #[.slice (some ⟨x.ga,0,none⟩) x.b.ac.length x.ca,.slice (some ⟨x.gi,0,none⟩) x.b.ic.length x.ci,.slice (some ⟨x.gb,0,none⟩) x.b.bs.length x.cb,.slice (some ⟨x.gl,0,none⟩) x.b.ls.length x.cl,.slice (some ⟨x.gt,0,none⟩) x.b.ts.length x.ct,.int .i64 x.b.lot],.int .i64 lo,.int .i64 hi,.int .i64 fk] w (AnsN (ToldW x.b lo hi fk) (IsNet x.b lo hi fk) w):=by
 obtain⟨b1,h1⟩:=says_of (∀y∈[lo,hi],NoOk y)
 obtain⟨b2,h2⟩:=says_of (1≤fk∧fk≤3)
 have HT:=zh (show Says (b1&&b2) ((NoOk lo∧NoOk hi)∧(1≤fk∧fk≤3)) from by
  have a:=says_and h1 h2
  refine⟨fun e=>⟨⟨(a.1 e).1 lo (by simp),(a.1 e).1 hi (by simp)⟩,(a.1 e).2⟩,fun r=>a.of ⟨fun y hy=>?_,r.2⟩⟩
  simp only[List.mem_cons,List.not_mem_nil,or_false] at hy
  rcases hy with rfl|rfl
  ·exact r.1.1
  ·exact r.1.2)
 have H1:=zh h1
 have H2:=zh h2
 have HR:=zh h
 have HE:=zh E
 have S0:=zh (TN.start (lo:=lo) (hi:=hi) (fk:=fk) h)
 have L0:=zh (show Own3 67 (((((((w.alloc (.cells #[.slice (some ⟨x.ga,0,none⟩) x.b.ac.length x.ca,.slice (some ⟨x.gi,0,none⟩) x.b.ic.length x.ci,.slice (some ⟨x.gb,0,none⟩) x.b.bs.length x.cb,.slice (some ⟨x.gl,0,none⟩) x.b.ls.length x.cl,.slice (some ⟨x.gt,0,none⟩) x.b.ts.length x.ct,.int .i64 x.b.lot] 40)).alloc (.cells #[.int .i64 lo] 3)).alloc (.cells #[.int .i64 hi] 3)).alloc (.cells #[.int .i64 fk] 3)).alloc (.cells #[.slice none 0 0,.slice none 0 0,.slice none 0 0,.slice none 0 0,.slice none 0 0,.int .i64 0] 40)).alloc (.cells #[] 67)).alloc (.cells #[.slice (some ⟨w.heap.size+1+1+1+1+1,0,none⟩) 0 0] 31)) w.heap.size (w.heap.size+1+1+1+1+1) 0 0 [] from by
  have:=(Triples.lit30 67 ((((((w.alloc (.cells #[.slice (some ⟨x.ga,0,none⟩) x.b.ac.length x.ca,.slice (some ⟨x.gi,0,none⟩) x.b.ic.length x.ci,.slice (some ⟨x.gb,0,none⟩) x.b.bs.length x.cb,.slice (some ⟨x.gl,0,none⟩) x.b.ls.length x.cl,.slice (some ⟨x.gt,0,none⟩) x.b.ts.length x.ct,.int .i64 x.b.lot] 40)).alloc (.cells #[.int .i64 lo] 3)).alloc (.cells #[.int .i64 hi] 3)).alloc (.cells #[.int .i64 fk] 3)).alloc (.cells #[.slice none 0 0,.slice none 0 0,.slice none 0 0,.slice none 0 0,.slice none 0 0,.int .i64 0] 40))) w.heap.size (by simp<;>omega)).alloc (.cells #[.slice (some ⟨w.heap.size+1+1+1+1+1,0,none⟩) 0 0] 31)
  simpa using this)
 clear h1 h2 h E
 go_enter Tryz.func18,Tryz.ntmps18
 go_wp2_with fail
 generalize ((((((w.alloc (.cells #[.slice (some ⟨x.ga,0,none⟩) x.b.ac.length x.ca,.slice (some ⟨x.gi,0,none⟩) x.b.ic.length x.ci,.slice (some ⟨x.gb,0,none⟩) x.b.bs.length x.cb,.slice (some ⟨x.gl,0,none⟩) x.b.ls.length x.cl,.slice (some ⟨x.gt,0,none⟩) x.b.ts.length x.ct,.int .i64 x.b.lot] 40)).alloc (.cells #[.int .i64 lo] 3)).alloc (.cells #[.int .i64 hi] 3)).alloc (.cells #[.int .i64 fk] 3)).alloc (.cells #[.slice none 0 0,.slice none 0 0,.slice none 0 0,.slice none 0 0,.slice none 0 0,.int .i64 0] 40)).alloc (.cells #[] 67)).alloc (.cells #[.slice (some ⟨w.heap.size+1+1+1+1+1,0,none⟩) 0 0] 31)=w0 at *
 have z0:w.heap.size+1+1+1+1+1+1<w0.heap.size:=(zu S0).lt
 have E0:=zh ((zu HE).below (zu S0).b hN)
 have hmf:∀(fn:Fn) (first cp:Array Value) (w:World),(Instr.makeFunc fn first cp).run Tryz.prog w= .ok (.func fn first cp) w:=fun _ _ _ _=>rfl
 have HF:=zh (show ∀W:World,TN w W x lo hi fk (.slice (some ⟨w.heap.size+1+1+1+1+1,0,none⟩) 0 0)→Errs W 5 N ad→Ok x.b→((NoOk lo∧NoOk hi)∧(1≤fk∧fk≤3))→∀(u:World) (z:Bx),z.b=x.b→Var u W.heap.size (W.heap.size+1) z→Ow u (W.heap.size+4) z→Below W.heap.size W u→Calls Tryz.prog 58 (#[.pointer (some ⟨W.heap.size+1,0,none⟩)]++ #[.pointer (some ⟨w.heap.size+1,0,none⟩),.pointer (some ⟨w.heap.size+1+1,0,none⟩),.pointer (some ⟨w.heap.size+1+1+1,0,none⟩),.pointer (some ⟨w.heap.size+1+1+1+1+1+1,0,none⟩)]) u (DoesL x (NP W x lo hi fk (w.heap.size+1+1+1+1+1+1)) W W.heap.size (W.heap.size+1) u) from by
  intro W tn er ok ta u z hz V O bb
  have lt:=tn.lt
  refine(iClosure u z W.heap.size (W.heap.size+1) N (w.heap.size+1+1+1+1+1+1) ⟨w.heap.size+1,0,none⟩ ⟨w.heap.size+1+1,0,none⟩ ⟨w.heap.size+1+1+1,0,none⟩ lo hi fk ad _ ((bb.cell (p:=⟨w.heap.size+1,0,none⟩) (by simp<;>omega)).trans tn.n1) ((bb.cell (p:=⟨w.heap.size+1+1,0,none⟩) (by simp<;>omega)).trans tn.n2) ((bb.cell (p:=⟨w.heap.size+1+1+1,0,none⟩) (by simp<;>omega)).trans tn.n3) (by simp<;>omega) (by simp<;>omega) (by simp<;>omega) ((bb.block _ lt).trans tn.l) lt (by omega) (by rw[hz];exact ok) V O (by omega) (by omega) (er.below bb (by omega))).mono ?_
  rintro e u' ⟨b',ls,t,c,gL,cL,hP,l120,he,oL,hzz,fr⟩
  rw[hz] at hP
  exact⟨_,_,b',t,c,(tn.set (zu HR) (.slice (some ⟨gL,0,none⟩) ls.length cL)).r,alt_set bb lt _,⟨ls,gL,cL,rfl,hP,l120,oL⟩,he,hzz,fr⟩)
 have SB:=zh (((zu S0).step (Below.refl _ _).drew).step (one_more w0.drew (.cells #[.int .i64 lo,.int .i64 hi] 3)))
 clear HE
 go_cut [13,14,15] (fun s13 s14 s15 wx=>∃(gN:Nat) (a0 a1 a2 a3 a4:Option Addr) (n0 n1 n2 n3 n4 j0 j1 j2 j3 j4:Nat) (l t c:Int) (ls:List T3) (gL cL:Nat),s13= .pointer (some ⟨gN,0,none⟩)∧s14= .int .i64 t∧s15= .int .i64 c∧Hid (TN w wx x lo hi fk (.slice (some ⟨gL,0,none⟩) ls.length cL))∧Hid (Box wx w.heap.size gN (.slice a0 n0 j0) (.slice a1 n1 j1) (.slice a2 n2 j2) (.slice a3 n3 j3) (.slice a4 n4 j4) (.int .i64 l))∧w.heap.size+1+1+1+1+1+1<gN∧Hid (Own3 67 wx w.heap.size gL ls.length cL ls)∧ls.length≤120∧Hid (¬(((NoOk lo∧NoOk hi)∧(1≤fk∧fk≤3))∧Ok x.b)→ls=[])∧Hid (Fin (((NoOk lo∧NoOk hi)∧(1≤fk∧fk≤3))∧Ok x.b) x.b (fun b' t c=>IsNetP x.b (openT lo hi x.b.ts) fk b' ls t c) w.heap.size a0 a1 a2 a3 a4 n0 n1 n2 n3 n4 j0 j1 j2 j3 j4 l t c wx))
 case first=>
  cases b1
  all_goals
   refine wp_region_held_drew (S:=(fun w'=>w'.cell? ⟨w.heap.size,0,none⟩=some (.slice (some ⟨x.ga,0,none⟩) x.b.ac.length x.ca)∧w'.cell? ⟨w.heap.size,1,none⟩=some (.slice (some ⟨x.gi,0,none⟩) x.b.ic.length x.ci)∧w'.cell? ⟨w.heap.size,2,none⟩=some (.slice (some ⟨x.gb,0,none⟩) x.b.bs.length x.cb)∧w'.cell? ⟨w.heap.size,3,none⟩=some (.slice (some ⟨x.gl,0,none⟩) x.b.ls.length x.cl)∧w'.cell? ⟨w.heap.size,4,none⟩=some (.slice (some ⟨x.gt,0,none⟩) x.b.ts.length x.ct)∧w'.cell? ⟨w.heap.size,5,none⟩=some (.int .i64 x.b.lot)∧w'.cell? ⟨w.heap.size+1,0,none⟩=some (.int .i64 lo)∧w'.cell? ⟨w.heap.size+1+1,0,none⟩=some (.int .i64 hi)∧w'.cell? ⟨w.heap.size+1+1+1,0,none⟩=some (.int .i64 fk))) (by kernel_rfl) (zu S0).hold (fun hHeld=>?_)
   refine tk 0 oN0 (.agg #[.slice (some ⟨x.ga,0,none⟩) x.b.ac.length x.ca,.slice (some ⟨x.gi,0,none⟩) x.b.ic.length x.ci,.slice (some ⟨x.gb,0,none⟩) x.b.bs.length x.cb,.slice (some ⟨x.gl,0,none⟩) x.b.ls.length x.cl,.slice (some ⟨x.gt,0,none⟩) x.b.ts.length x.ct,.int .i64 x.b.lot]) rfl (by kernel_rfl) (fun _ _ _ h=>h) (by rfl) (fun w hSw=>?_) hHeld ?_
   ·(try dsimp only at hSw)
    unfold oN0
    go_simp
   try simp only[oN0,Act.put,zA,zB,zC]
   refine tk 1 oN1 (.int .i64 lo) rfl (by kernel_rfl) (fun _ _ _ h=>h) (by rfl) (fun w hSw=>?_) hHeld ?_
   ·(try dsimp only at hSw)
    unfold oN1
    go_simp
   try simp only[oN1,Act.put,zA,zB,zC]
   refine tk 2 oN2 (.int .i64 hi) rfl (by kernel_rfl) (fun _ _ _ h=>h) (by rfl) (fun w hSw=>?_) hHeld ?_
   ·(try dsimp only at hSw)
    unfold oN2
    go_simp
   try simp only[oN2,Act.put,zA,zB,zC]
   refine tk 9 oN9 (.func (.func 58) #[] #[.pointer (some ⟨w.heap.size+1,0,none⟩),.pointer (some ⟨w.heap.size+1+1,0,none⟩),.pointer (some ⟨w.heap.size+1+1+1,0,none⟩),.pointer (some ⟨w.heap.size+1+1+1+1+1+1,0,none⟩)]) rfl (by kernel_rfl) (fun _ _ _ h=>h) (by rfl) (fun w hSw=>?_) hHeld ?_
   ·(try dsimp only at hSw)
    unfold oN9
    go_simp
   try simp only[oN9,Act.put,zA,zB,zC]
   refine wpAnyH_ready (rs:=[3,15]) (by kernel_rfl) (by simp) ?_
   refine AllReadyH.cons (o:=oN3) rfl (fun K hK=>?_) (AllReadyH.cons (o:=oN15) rfl (fun K hK=>by
    unfold oN15
    go_simp
    have SA:=zh (((zu S0).step (Below.refl _ _).drew).step (one_more w0.drew (.cells #[.slice none 0 0,.slice none 0 0,.slice none 0 0,.slice none 0 0,.slice none 0 0,.int .i64 0] 40)))
    have V0:=zh (Box.made (w:=w0.drew) (base:=w.heap.size) (g:=w0.heap.size) (.slice none 0 0) (.slice none 0 0) (.slice none 0 0) (.slice none 0 0) (.slice none 0 0) (.int .i64 0) (by simp;omega) rfl)
    refine hK.out _ _ (zu SA).hold (fun hHeld=>?_)
    clear hK K
    try simp only[oN15,Act.put,zA,zB,zC]
    refine wpAnyH_ready (rs:=[3]) (by kernel_rfl) (by simp) ?_
    refine AllReadyH.cons (o:=oN3) rfl (fun K hK=>?_) AllReadyH.nil
    unfold oN3
    go_simp
    have SAB:=zh ((zu SA).step (one_more (w0.drew.alloc (.cells #[.slice none 0 0,.slice none 0 0,.slice none 0 0,.slice none 0 0,.slice none 0 0,.int .i64 0] 40)) (.cells #[.int .i64 lo,.int .i64 hi] 3)))
    have V0:=zh (Box.below (zu V0) (one_more _ (.cells #[.int .i64 lo,.int .i64 hi] 3)) (zu V0).lt.2)
    refine hK.out _ _ (zu SAB).hold (fun hHeld=>?_)
    clear hK K
    try simp only[oN3,Act.put,zA,zB,zC]
    refine wpAnyH_ready (rs:=[4]) (by kernel_rfl) (by simp) ?_
    refine AllReadyH.cons (o:=oN4) rfl (fun K hK=>?_) AllReadyH.nil
    unfold oN4
    go_simp
    refine(iNumbers _ (w0.heap.size+1) 2 2 [lo,hi] _ rfl (by omega) (by first|(simp;done)|(simp;omega)) (at_new (w0.drew.alloc (.cells #[.slice none 0 0,.slice none 0 0,.slice none 0 0,.slice none 0 0,.slice none 0 0,.int .i64 0] 40)) [lo,hi] _ (by simp) rfl) (zu H1)).mono ?_
    rintro e w2 ⟨rfl,bb⟩
    have S2:=zh ((zu SAB).step bb)
    have L2:=zh ((zu L0).below (show Below w0.heap.size w0 w2 from Below.trans (by repeat(first|with_reducible exact Below.refl _ _|with_reducible refine Below.drew ?_|(with_reducible refine Below.alloc ?_ ?hle _;case hle=>first|exact Nat.le_refl _|(simp;done)|(simp;omega)))) (bb.mono (by simp<;>omega))) (zu L0).lt.2)
    have E2:=zh ((zu E0).below (show Below w0.heap.size w0 w2 from Below.trans (by repeat(first|with_reducible exact Below.refl _ _|with_reducible refine Below.drew ?_|(with_reducible refine Below.alloc ?_ ?hle _;case hle=>first|exact Nat.le_refl _|(simp;done)|(simp;omega)))) (bb.mono (by simp<;>omega))) (by omega))
    have z2:w0.heap.size≤w2.heap.size:=(by have:=bb.size;simp at this;omega)
    have K6:=(zu S2).hold
    have V0:=zh (Box.below (zu V0) bb (zu V0).lt.2)
    clear bb
    go_wp2_with fail
    refine hK.out _ _ K6 (fun hHeld=>?_)
    clear hK K
    try simp only[oN4,Act.put,zA,zB,zC]
    first
    |(refine tk 5 oN5 (.bool false) rfl (by kernel_rfl) (fun _ _ _ h=>h) (by rfl) (fun w hSw=>?_) hHeld ?_
      ·(try dsimp only at hSw)
       unfold oN5
       go_simp
      try simp only[oN5,Act.put,zA,zB,zC]
      refine sk 6 oN6 rfl (by kernel_rfl) (fun _ _ _ h=>h) (by rfl) hHeld ?_
      try simp only[oN6,Act.put,zA,zB,zC]
      refine sk 7 oN7 rfl (by kernel_rfl) (fun _ _ _ h=>h) (by rfl) hHeld ?_
      try simp only[oN7,Act.put,zA,zB,zC]
      refine tk 8 oN8 (.bool false) rfl (by kernel_rfl) (fun _ _ _ h=>h) (by rfl) (fun w hSw=>?_) hHeld ?_
      ·(try dsimp only at hSw)
       unfold oN8
       go_simp
      try simp only[oN8,Act.put,zA,zB,zC])
    |(refine tk 5 oN5 (.bool true) rfl (by kernel_rfl) (fun _ _ _ h=>h) (by rfl) (fun w hSw=>?_) hHeld ?_
      ·(try dsimp only at hSw)
       unfold oN5
       go_simp
      try simp only[oN5,Act.put,zA,zB,zC]
      refine tk 6 oN6 (.int .i64 fk) rfl (by kernel_rfl) (fun _ _ _ h=>h) (by rfl) (fun w hSw=>?_) hHeld ?_
      ·(try dsimp only at hSw)
       unfold oN6
       go_simp
      try simp only[oN6,Act.put,zA,zB,zC]
      refine wpAnyH_ready (rs:=[7]) (by kernel_rfl) (by simp) ?_
      refine AllReadyH.cons (o:=oN7) rfl (fun K hK=>?_) AllReadyH.nil
      unfold oN7
      go_simp
      refine(IHave.iWay fk b2 _ (zu H2)).mono ?_
      rintro e v2 ⟨rfl,hv⟩
      rw[hv]
      clear hv
      go_wp2_with fail
      refine hK.out _ _ K6 (fun hHeld=>?_)
      clear hK K
      try simp only[oN7,Act.put,zA,zB,zC]
      refine tk 8 oN8 (.bool b2) rfl (by kernel_rfl) (fun _ _ _ h=>h) (by rfl) (fun w hSw=>?_) hHeld ?_
      ·(try dsimp only at hSw)
       unfold oN8
       go_simp
      try simp only[oN8,Act.put,zA,zB,zC])
    refine wpAnyH_ready (rs:=[10]) (by kernel_rfl) (by simp) ?_
    refine AllReadyH.cons (o:=oN10) rfl (fun K hK=>?_) AllReadyH.nil
    unfold oN10
    go_simp
    refine(iCmdL _ x _ ((NoOk lo∧NoOk hi)∧(1≤fk∧fk≤3)) 58 _ (NP _ x lo hi fk (w.heap.size+1+1+1+1+1+1)) (zu S2).r (zu HT) (fun _ _=>rfl) ((zu HF) _ (zu S2) (zu E2))).mono ?_
    intro e w3 hA
    obtain⟨a0,a1,a2,a3,a4,n0,n1,n2,n3,n4,j0,j1,j2,j3,j4,l,t,c,ls,gL,cL,rfl,s3,ow3,l120,ln,fin,frl⟩:=fin_net (zu HR) (zu S2) (zu L2) hA
    have S3:=zh s3
    have OL:=zh ow3
    have FN:=zh fin
    have LN:=zh ln
    have K7:=(zu S3).hold
    have z3:=frl.1
    have V0:=zh (box_frl (zu V0) frl (by omega))
    have zv:=(zu V0).lt
    have S4:=zh ((zu S3).kept (zu HR) (box_six (zu V0) (.slice a0 n0 j0) (.slice a1 n1 j1) (.slice a2 n2 j2) (.slice a3 n3 j3) (.slice a4 n4 j4) (.int .i64 l)).2 (by omega))
    have K8:=(zu S4).hold
    obtain⟨k0,k1,k2,k3,k4,k5⟩:=boxc (zu V0)
    obtain⟨v0,v1,v2,v3,v4,v5⟩:=boxf (zu V0)
    clear hA fin ow3 s3 ln frl
    go_wp2_with fail
    refine hK.out _ _ K7 (fun hHeld=>?_)
    clear hK K
    try simp only[oN10,Act.put,zA,zB,zC]
    refine tk 11 oN11 (.tuple #[.agg #[.slice a0 n0 j0,.slice a1 n1 j1,.slice a2 n2 j2,.slice a3 n3 j3,.slice a4 n4 j4,.int .i64 l],.int .i64 t,.int .i64 c]) rfl (by kernel_rfl) (fun _ _ _ h=>h) (by rfl) (fun w hSw=>?_) hHeld ?_
    ·(try dsimp only at hSw)
     unfold oN11
     go_simp
    try simp only[oN11,Act.put,zA,zB,zC]
    refine tk 12 oN12 (.agg #[.slice a0 n0 j0,.slice a1 n1 j1,.slice a2 n2 j2,.slice a3 n3 j3,.slice a4 n4 j4,.int .i64 l]) rfl (by kernel_rfl) (fun _ _ _ h=>h) (by rfl) (fun w hSw=>?_) hHeld ?_
    ·(try dsimp only at hSw)
     unfold oN12
     go_simp
    try simp only[oN12,Act.put,zA,zB,zC]
    refine tk 13 oN13 (.int .i64 t) rfl (by kernel_rfl) (fun _ _ _ h=>h) (by rfl) (fun w hSw=>?_) hHeld ?_
    ·(try dsimp only at hSw)
     unfold oN13
     go_simp
    try simp only[oN13,Act.put,zA,zB,zC]
    refine tk 14 oN14 (.int .i64 c) rfl (by kernel_rfl) (fun _ _ _ h=>h) (by rfl) (fun w hSw=>?_) hHeld ?_
    ·(try dsimp only at hSw)
     unfold oN14
     go_simp
    try simp only[oN14,Act.put,zA,zB,zC]
    refine wpAnyH_ready (rs:=[16]) (by kernel_rfl) (by simp) ?_
    refine AllReadyH.cons (o:=oN16) rfl (fun K hK=>?_) AllReadyH.nil
    unfold oN16
    go_simp
    refine hK.out _ _ K8 (fun hHeld=>?_)
    clear hK K
    try simp only[oN16,Act.put,zA,zB,zC]
    refine tk 17 oN17 (.int .i64 t) rfl (by kernel_rfl) (fun _ _ _ h=>h) (by rfl) (fun w hSw=>?_) hHeld ?_
    ·(try dsimp only at hSw)
     unfold oN17
     go_simp
    try simp only[oN17,Act.put,zA,zB,zC]
    refine tk 18 oN18 (.int .i64 c) rfl (by kernel_rfl) (fun _ _ _ h=>h) (by rfl) (fun w hSw=>?_) hHeld ?_
    ·(try dsimp only at hSw)
     unfold oN18
     go_simp
    try simp only[oN18,Act.put,zA,zB,zC]
    refine wpAnyH_done (by kernel_rfl) ?_ _
    go_wp2_with fail
    go_meet
    exact⟨_,a0,a1,a2,a3,a4,n0,n1,n2,n3,n4,j0,j1,j2,j3,j4,l,t,c,ls,gL,cL,rfl,rfl,rfl,S4,zh (box_six (zu V0) _ _ _ _ _ _).1,by omega,zh ((zu OL).kept (box_six (zu V0) (.slice a0 n0 j0) (.slice a1 n1 j1) (.slice a2 n2 j2) (.slice a3 n3 j3) (.slice a4 n4 j4) (.int .i64 l)).2 (fun e=>by injection e with e;exact SIssue.row_ne (zu V0) (zu OL) (by decide) e.symm)),l120,LN,zh ((zu FN).six (zu V0) _ _ _ _ _ _)⟩) AllReadyH.nil)
   unfold oN3
   go_simp
   refine hK.out _ _ (zu SB).hold (fun hHeld=>?_)
   clear hK K
   try simp only[oN3,Act.put,zA,zB,zC]
   refine wpAnyH_ready (rs:=[4,15]) (by kernel_rfl) (by simp) ?_
   refine AllReadyH.cons (o:=oN4) rfl (fun K hK=>?_) (AllReadyH.cons (o:=oN15) rfl (fun K hK=>by
    unfold oN15
    go_simp
    have SBA:=zh ((zu SB).step (one_more (w0.drew.alloc (.cells #[.int .i64 lo,.int .i64 hi] 3)) (.cells #[.slice none 0 0,.slice none 0 0,.slice none 0 0,.slice none 0 0,.slice none 0 0,.int .i64 0] 40)))
    have V0:=zh (Box.made (w:=w0.drew.alloc (.cells #[.int .i64 lo,.int .i64 hi] 3)) (base:=w.heap.size) (g:=w0.heap.size+1) (.slice none 0 0) (.slice none 0 0) (.slice none 0 0) (.slice none 0 0) (.slice none 0 0) (.int .i64 0) (by simp;omega) (by simp))
    refine hK.out _ _ (zu SBA).hold (fun hHeld=>?_)
    clear hK K
    try simp only[oN15,Act.put,zA,zB,zC]
    refine wpAnyH_ready (rs:=[4]) (by kernel_rfl) (by simp) ?_
    refine AllReadyH.cons (o:=oN4) rfl (fun K hK=>?_) AllReadyH.nil
    unfold oN4
    go_simp
    refine(iNumbers _ (w0.heap.size) 2 2 [lo,hi] _ rfl (by omega) (by first|(simp;done)|(simp;omega)) ((at_new w0.drew [lo,hi] _ rfl rfl).below (one_more _ _) (by simp)) (zu H1)).mono ?_
    rintro e w2 ⟨rfl,bb⟩
    have S2:=zh ((zu SBA).step bb)
    have L2:=zh ((zu L0).below (show Below w0.heap.size w0 w2 from Below.trans (by repeat(first|with_reducible exact Below.refl _ _|with_reducible refine Below.drew ?_|(with_reducible refine Below.alloc ?_ ?hle _;case hle=>first|exact Nat.le_refl _|(simp;done)|(simp;omega)))) (bb.mono (by simp<;>omega))) (zu L0).lt.2)
    have E2:=zh ((zu E0).below (show Below w0.heap.size w0 w2 from Below.trans (by repeat(first|with_reducible exact Below.refl _ _|with_reducible refine Below.drew ?_|(with_reducible refine Below.alloc ?_ ?hle _;case hle=>first|exact Nat.le_refl _|(simp;done)|(simp;omega)))) (bb.mono (by simp<;>omega))) (by omega))
    have z2:w0.heap.size≤w2.heap.size:=(by have:=bb.size;simp at this;omega)
    have K6:=(zu S2).hold
    have V0:=zh (Box.below (zu V0) bb (zu V0).lt.2)
    clear bb
    go_wp2_with fail
    refine hK.out _ _ K6 (fun hHeld=>?_)
    clear hK K
    try simp only[oN4,Act.put,zA,zB,zC]
    first
    |(refine tk 5 oN5 (.bool false) rfl (by kernel_rfl) (fun _ _ _ h=>h) (by rfl) (fun w hSw=>?_) hHeld ?_
      ·(try dsimp only at hSw)
       unfold oN5
       go_simp
      try simp only[oN5,Act.put,zA,zB,zC]
      refine sk 6 oN6 rfl (by kernel_rfl) (fun _ _ _ h=>h) (by rfl) hHeld ?_
      try simp only[oN6,Act.put,zA,zB,zC]
      refine sk 7 oN7 rfl (by kernel_rfl) (fun _ _ _ h=>h) (by rfl) hHeld ?_
      try simp only[oN7,Act.put,zA,zB,zC]
      refine tk 8 oN8 (.bool false) rfl (by kernel_rfl) (fun _ _ _ h=>h) (by rfl) (fun w hSw=>?_) hHeld ?_
      ·(try dsimp only at hSw)
       unfold oN8
       go_simp
      try simp only[oN8,Act.put,zA,zB,zC])
    |(refine tk 5 oN5 (.bool true) rfl (by kernel_rfl) (fun _ _ _ h=>h) (by rfl) (fun w hSw=>?_) hHeld ?_
      ·(try dsimp only at hSw)
       unfold oN5
       go_simp
      try simp only[oN5,Act.put,zA,zB,zC]
      refine tk 6 oN6 (.int .i64 fk) rfl (by kernel_rfl) (fun _ _ _ h=>h) (by rfl) (fun w hSw=>?_) hHeld ?_
      ·(try dsimp only at hSw)
       unfold oN6
       go_simp
      try simp only[oN6,Act.put,zA,zB,zC]
      refine wpAnyH_ready (rs:=[7]) (by kernel_rfl) (by simp) ?_
      refine AllReadyH.cons (o:=oN7) rfl (fun K hK=>?_) AllReadyH.nil
      unfold oN7
      go_simp
      refine(IHave.iWay fk b2 _ (zu H2)).mono ?_
      rintro e v2 ⟨rfl,hv⟩
      rw[hv]
      clear hv
      go_wp2_with fail
      refine hK.out _ _ K6 (fun hHeld=>?_)
      clear hK K
      try simp only[oN7,Act.put,zA,zB,zC]
      refine tk 8 oN8 (.bool b2) rfl (by kernel_rfl) (fun _ _ _ h=>h) (by rfl) (fun w hSw=>?_) hHeld ?_
      ·(try dsimp only at hSw)
       unfold oN8
       go_simp
      try simp only[oN8,Act.put,zA,zB,zC])
    refine wpAnyH_ready (rs:=[10]) (by kernel_rfl) (by simp) ?_
    refine AllReadyH.cons (o:=oN10) rfl (fun K hK=>?_) AllReadyH.nil
    unfold oN10
    go_simp
    refine(iCmdL _ x _ ((NoOk lo∧NoOk hi)∧(1≤fk∧fk≤3)) 58 _ (NP _ x lo hi fk (w.heap.size+1+1+1+1+1+1)) (zu S2).r (zu HT) (fun _ _=>rfl) ((zu HF) _ (zu S2) (zu E2))).mono ?_
    intro e w3 hA
    obtain⟨a0,a1,a2,a3,a4,n0,n1,n2,n3,n4,j0,j1,j2,j3,j4,l,t,c,ls,gL,cL,rfl,s3,ow3,l120,ln,fin,frl⟩:=fin_net (zu HR) (zu S2) (zu L2) hA
    have S3:=zh s3
    have OL:=zh ow3
    have FN:=zh fin
    have LN:=zh ln
    have K7:=(zu S3).hold
    have z3:=frl.1
    have V0:=zh (box_frl (zu V0) frl (by omega))
    have zv:=(zu V0).lt
    have S4:=zh ((zu S3).kept (zu HR) (box_six (zu V0) (.slice a0 n0 j0) (.slice a1 n1 j1) (.slice a2 n2 j2) (.slice a3 n3 j3) (.slice a4 n4 j4) (.int .i64 l)).2 (by omega))
    have K8:=(zu S4).hold
    obtain⟨k0,k1,k2,k3,k4,k5⟩:=boxc (zu V0)
    obtain⟨v0,v1,v2,v3,v4,v5⟩:=boxf (zu V0)
    clear hA fin ow3 s3 ln frl
    go_wp2_with fail
    refine hK.out _ _ K7 (fun hHeld=>?_)
    clear hK K
    try simp only[oN10,Act.put,zA,zB,zC]
    refine tk 11 oN11 (.tuple #[.agg #[.slice a0 n0 j0,.slice a1 n1 j1,.slice a2 n2 j2,.slice a3 n3 j3,.slice a4 n4 j4,.int .i64 l],.int .i64 t,.int .i64 c]) rfl (by kernel_rfl) (fun _ _ _ h=>h) (by rfl) (fun w hSw=>?_) hHeld ?_
    ·(try dsimp only at hSw)
     unfold oN11
     go_simp
    try simp only[oN11,Act.put,zA,zB,zC]
    refine tk 12 oN12 (.agg #[.slice a0 n0 j0,.slice a1 n1 j1,.slice a2 n2 j2,.slice a3 n3 j3,.slice a4 n4 j4,.int .i64 l]) rfl (by kernel_rfl) (fun _ _ _ h=>h) (by rfl) (fun w hSw=>?_) hHeld ?_
    ·(try dsimp only at hSw)
     unfold oN12
     go_simp
    try simp only[oN12,Act.put,zA,zB,zC]
    refine tk 13 oN13 (.int .i64 t) rfl (by kernel_rfl) (fun _ _ _ h=>h) (by rfl) (fun w hSw=>?_) hHeld ?_
    ·(try dsimp only at hSw)
     unfold oN13
     go_simp
    try simp only[oN13,Act.put,zA,zB,zC]
    refine tk 14 oN14 (.int .i64 c) rfl (by kernel_rfl) (fun _ _ _ h=>h) (by rfl) (fun w hSw=>?_) hHeld ?_
    ·(try dsimp only at hSw)
     unfold oN14
     go_simp
    try simp only[oN14,Act.put,zA,zB,zC]
    refine wpAnyH_ready (rs:=[16]) (by kernel_rfl) (by simp) ?_
    refine AllReadyH.cons (o:=oN16) rfl (fun K hK=>?_) AllReadyH.nil
    unfold oN16
    go_simp
    refine hK.out _ _ K8 (fun hHeld=>?_)
    clear hK K
    try simp only[oN16,Act.put,zA,zB,zC]
    refine tk 17 oN17 (.int .i64 t) rfl (by kernel_rfl) (fun _ _ _ h=>h) (by rfl) (fun w hSw=>?_) hHeld ?_
    ·(try dsimp only at hSw)
     unfold oN17
     go_simp
    try simp only[oN17,Act.put,zA,zB,zC]
    refine tk 18 oN18 (.int .i64 c) rfl (by kernel_rfl) (fun _ _ _ h=>h) (by rfl) (fun w hSw=>?_) hHeld ?_
    ·(try dsimp only at hSw)
     unfold oN18
     go_simp
    try simp only[oN18,Act.put,zA,zB,zC]
    refine wpAnyH_done (by kernel_rfl) ?_ _
    go_wp2_with fail
    go_meet
    exact⟨_,a0,a1,a2,a3,a4,n0,n1,n2,n3,n4,j0,j1,j2,j3,j4,l,t,c,ls,gL,cL,rfl,rfl,rfl,S4,zh (box_six (zu V0) _ _ _ _ _ _).1,by omega,zh ((zu OL).kept (box_six (zu V0) (.slice a0 n0 j0) (.slice a1 n1 j1) (.slice a2 n2 j2) (.slice a3 n3 j3) (.slice a4 n4 j4) (.int .i64 l)).2 (fun e=>by injection e with e;exact SIssue.row_ne (zu V0) (zu OL) (by decide) e.symm)),l120,LN,zh ((zu FN).six (zu V0) _ _ _ _ _ _)⟩) AllReadyH.nil)
   unfold oN4
   go_simp
   refine(iNumbers _ (w0.heap.size) 2 2 [lo,hi] _ rfl (by omega) (by first|(simp;done)|(simp;omega)) (at_new w0.drew [lo,hi] _ rfl rfl) (zu H1)).mono ?_
   rintro e w2 ⟨rfl,bb⟩
   have S2:=zh ((zu SB).step bb)
   have L2:=zh ((zu L0).below (show Below w0.heap.size w0 w2 from Below.trans (by repeat(first|with_reducible exact Below.refl _ _|with_reducible refine Below.drew ?_|(with_reducible refine Below.alloc ?_ ?hle _;case hle=>first|exact Nat.le_refl _|(simp;done)|(simp;omega)))) (bb.mono (by simp<;>omega))) (zu L0).lt.2)
   have E2:=zh ((zu E0).below (show Below w0.heap.size w0 w2 from Below.trans (by repeat(first|with_reducible exact Below.refl _ _|with_reducible refine Below.drew ?_|(with_reducible refine Below.alloc ?_ ?hle _;case hle=>first|exact Nat.le_refl _|(simp;done)|(simp;omega)))) (bb.mono (by simp<;>omega))) (by omega))
   have z2:w0.heap.size≤w2.heap.size:=(by have:=bb.size;simp at this;omega)
   have K6:=(zu S2).hold
   clear bb
   go_wp2_with fail
   refine hK.out _ _ K6 (fun hHeld=>?_)
   clear hK K
   try simp only[oN4,Act.put,zA,zB,zC]
   first
   |(refine tk 5 oN5 (.bool false) rfl (by kernel_rfl) (fun _ _ _ h=>h) (by rfl) (fun w hSw=>?_) hHeld ?_
     ·(try dsimp only at hSw)
      unfold oN5
      go_simp
     try simp only[oN5,Act.put,zA,zB,zC]
     refine sk 6 oN6 rfl (by kernel_rfl) (fun _ _ _ h=>h) (by rfl) hHeld ?_
     try simp only[oN6,Act.put,zA,zB,zC]
     refine sk 7 oN7 rfl (by kernel_rfl) (fun _ _ _ h=>h) (by rfl) hHeld ?_
     try simp only[oN7,Act.put,zA,zB,zC]
     refine tk 8 oN8 (.bool false) rfl (by kernel_rfl) (fun _ _ _ h=>h) (by rfl) (fun w hSw=>?_) hHeld ?_
     ·(try dsimp only at hSw)
      unfold oN8
      go_simp
     try simp only[oN8,Act.put,zA,zB,zC])
   |(refine tk 5 oN5 (.bool true) rfl (by kernel_rfl) (fun _ _ _ h=>h) (by rfl) (fun w hSw=>?_) hHeld ?_
     ·(try dsimp only at hSw)
      unfold oN5
      go_simp
     try simp only[oN5,Act.put,zA,zB,zC]
     refine tk 6 oN6 (.int .i64 fk) rfl (by kernel_rfl) (fun _ _ _ h=>h) (by rfl) (fun w hSw=>?_) hHeld ?_
     ·(try dsimp only at hSw)
      unfold oN6
      go_simp
     try simp only[oN6,Act.put,zA,zB,zC]
     refine wpAnyH_ready (rs:=[7,15]) (by kernel_rfl) (by simp) ?_
     refine AllReadyH.cons (o:=oN7) rfl (fun K hK=>?_) (AllReadyH.cons (o:=oN15) rfl (fun K hK=>by
      unfold oN15
      go_simp
      have V0:=zh (Box.made (w:=w2) (base:=w.heap.size) (g:=w2.heap.size) (.slice none 0 0) (.slice none 0 0) (.slice none 0 0) (.slice none 0 0) (.slice none 0 0) (.int .i64 0) (by omega) (by first|rfl|simp))
      have S2:=zh ((zu S2).step (one_more w2 (.cells #[.slice none 0 0,.slice none 0 0,.slice none 0 0,.slice none 0 0,.slice none 0 0,.int .i64 0] 40)))
      have L2:=zh ((zu L2).alloc (.cells #[.slice none 0 0,.slice none 0 0,.slice none 0 0,.slice none 0 0,.slice none 0 0,.int .i64 0] 40))
      have E2:=zh ((zu E2).below (one_more w2 (.cells #[.slice none 0 0,.slice none 0 0,.slice none 0 0,.slice none 0 0,.slice none 0 0,.int .i64 0] 40)) (by first|omega|(simp;omega)))
      refine hK.out _ _ (zu S2).hold (fun hHeld=>?_)
      clear hK K
      try simp only[oN15,Act.put,zA,zB,zC]
      refine wpAnyH_ready (rs:=[7]) (by kernel_rfl) (by simp) ?_
      refine AllReadyH.cons (o:=oN7) rfl (fun K hK=>?_) AllReadyH.nil
      unfold oN7
      go_simp
      refine(IHave.iWay fk b2 _ (zu H2)).mono ?_
      rintro e v2 ⟨rfl,hv⟩
      rw[hv]
      clear hv
      go_wp2_with fail
      refine hK.out _ _ (zu S2).hold (fun hHeld=>?_)
      clear hK K
      try simp only[oN7,Act.put,zA,zB,zC]
      refine tk 8 oN8 (.bool b2) rfl (by kernel_rfl) (fun _ _ _ h=>h) (by rfl) (fun w hSw=>?_) hHeld ?_
      ·(try dsimp only at hSw)
       unfold oN8
       go_simp
      try simp only[oN8,Act.put,zA,zB,zC]
      refine wpAnyH_ready (rs:=[10]) (by kernel_rfl) (by simp) ?_
      refine AllReadyH.cons (o:=oN10) rfl (fun K hK=>?_) AllReadyH.nil
      unfold oN10
      go_simp
      refine(iCmdL _ x _ ((NoOk lo∧NoOk hi)∧(1≤fk∧fk≤3)) 58 _ (NP _ x lo hi fk (w.heap.size+1+1+1+1+1+1)) (zu S2).r (zu HT) (fun _ _=>rfl) ((zu HF) _ (zu S2) (zu E2))).mono ?_
      intro e w3 hA
      obtain⟨a0,a1,a2,a3,a4,n0,n1,n2,n3,n4,j0,j1,j2,j3,j4,l,t,c,ls,gL,cL,rfl,s3,ow3,l120,ln,fin,frl⟩:=fin_net (zu HR) (zu S2) (zu L2) hA
      have S3:=zh s3
      have OL:=zh ow3
      have FN:=zh fin
      have LN:=zh ln
      have K7:=(zu S3).hold
      have z3:=frl.1
      have V0:=zh (box_frl (zu V0) frl (by omega))
      have zv:=(zu V0).lt
      have S4:=zh ((zu S3).kept (zu HR) (box_six (zu V0) (.slice a0 n0 j0) (.slice a1 n1 j1) (.slice a2 n2 j2) (.slice a3 n3 j3) (.slice a4 n4 j4) (.int .i64 l)).2 (by omega))
      have K8:=(zu S4).hold
      obtain⟨k0,k1,k2,k3,k4,k5⟩:=boxc (zu V0)
      obtain⟨v0,v1,v2,v3,v4,v5⟩:=boxf (zu V0)
      clear hA fin ow3 s3 ln frl
      go_wp2_with fail
      refine hK.out _ _ K7 (fun hHeld=>?_)
      clear hK K
      try simp only[oN10,Act.put,zA,zB,zC]
      refine tk 11 oN11 (.tuple #[.agg #[.slice a0 n0 j0,.slice a1 n1 j1,.slice a2 n2 j2,.slice a3 n3 j3,.slice a4 n4 j4,.int .i64 l],.int .i64 t,.int .i64 c]) rfl (by kernel_rfl) (fun _ _ _ h=>h) (by rfl) (fun w hSw=>?_) hHeld ?_
      ·(try dsimp only at hSw)
       unfold oN11
       go_simp
      try simp only[oN11,Act.put,zA,zB,zC]
      refine tk 12 oN12 (.agg #[.slice a0 n0 j0,.slice a1 n1 j1,.slice a2 n2 j2,.slice a3 n3 j3,.slice a4 n4 j4,.int .i64 l]) rfl (by kernel_rfl) (fun _ _ _ h=>h) (by rfl) (fun w hSw=>?_) hHeld ?_
      ·(try dsimp only at hSw)
       unfold oN12
       go_simp
      try simp only[oN12,Act.put,zA,zB,zC]
      refine tk 13 oN13 (.int .i64 t) rfl (by kernel_rfl) (fun _ _ _ h=>h) (by rfl) (fun w hSw=>?_) hHeld ?_
      ·(try dsimp only at hSw)
       unfold oN13
       go_simp
      try simp only[oN13,Act.put,zA,zB,zC]
      refine tk 14 oN14 (.int .i64 c) rfl (by kernel_rfl) (fun _ _ _ h=>h) (by rfl) (fun w hSw=>?_) hHeld ?_
      ·(try dsimp only at hSw)
       unfold oN14
       go_simp
      try simp only[oN14,Act.put,zA,zB,zC]
      refine wpAnyH_ready (rs:=[16]) (by kernel_rfl) (by simp) ?_
      refine AllReadyH.cons (o:=oN16) rfl (fun K hK=>?_) AllReadyH.nil
      unfold oN16
      go_simp
      refine hK.out _ _ K8 (fun hHeld=>?_)
      clear hK K
      try simp only[oN16,Act.put,zA,zB,zC]
      refine tk 17 oN17 (.int .i64 t) rfl (by kernel_rfl) (fun _ _ _ h=>h) (by rfl) (fun w hSw=>?_) hHeld ?_
      ·(try dsimp only at hSw)
       unfold oN17
       go_simp
      try simp only[oN17,Act.put,zA,zB,zC]
      refine tk 18 oN18 (.int .i64 c) rfl (by kernel_rfl) (fun _ _ _ h=>h) (by rfl) (fun w hSw=>?_) hHeld ?_
      ·(try dsimp only at hSw)
       unfold oN18
       go_simp
      try simp only[oN18,Act.put,zA,zB,zC]
      refine wpAnyH_done (by kernel_rfl) ?_ _
      go_wp2_with fail
      go_meet
      exact⟨_,a0,a1,a2,a3,a4,n0,n1,n2,n3,n4,j0,j1,j2,j3,j4,l,t,c,ls,gL,cL,rfl,rfl,rfl,S4,zh (box_six (zu V0) _ _ _ _ _ _).1,by omega,zh ((zu OL).kept (box_six (zu V0) (.slice a0 n0 j0) (.slice a1 n1 j1) (.slice a2 n2 j2) (.slice a3 n3 j3) (.slice a4 n4 j4) (.int .i64 l)).2 (fun e=>by injection e with e;exact SIssue.row_ne (zu V0) (zu OL) (by decide) e.symm)),l120,LN,zh ((zu FN).six (zu V0) _ _ _ _ _ _)⟩) AllReadyH.nil)
     unfold oN7
     go_simp
     refine(IHave.iWay fk b2 _ (zu H2)).mono ?_
     rintro e v2 ⟨rfl,hv⟩
     rw[hv]
     clear hv
     go_wp2_with fail
     refine hK.out _ _ K6 (fun hHeld=>?_)
     clear hK K
     try simp only[oN7,Act.put,zA,zB,zC]
     refine tk 8 oN8 (.bool b2) rfl (by kernel_rfl) (fun _ _ _ h=>h) (by rfl) (fun w hSw=>?_) hHeld ?_
     ·(try dsimp only at hSw)
      unfold oN8
      go_simp
     try simp only[oN8,Act.put,zA,zB,zC])
   refine wpAnyH_ready (rs:=[10,15]) (by kernel_rfl) (by simp) ?_
   refine AllReadyH.cons (o:=oN10) rfl (fun K hK=>?_) (AllReadyH.cons (o:=oN15) rfl (fun K hK=>by
    unfold oN15
    go_simp
    have V0:=zh (Box.made (w:=w2) (base:=w.heap.size) (g:=w2.heap.size) (.slice none 0 0) (.slice none 0 0) (.slice none 0 0) (.slice none 0 0) (.slice none 0 0) (.int .i64 0) (by omega) (by first|rfl|simp))
    have S2:=zh ((zu S2).step (one_more w2 (.cells #[.slice none 0 0,.slice none 0 0,.slice none 0 0,.slice none 0 0,.slice none 0 0,.int .i64 0] 40)))
    have L2:=zh ((zu L2).alloc (.cells #[.slice none 0 0,.slice none 0 0,.slice none 0 0,.slice none 0 0,.slice none 0 0,.int .i64 0] 40))
    have E2:=zh ((zu E2).below (one_more w2 (.cells #[.slice none 0 0,.slice none 0 0,.slice none 0 0,.slice none 0 0,.slice none 0 0,.int .i64 0] 40)) (by first|omega|(simp;omega)))
    refine hK.out _ _ (zu S2).hold (fun hHeld=>?_)
    clear hK K
    try simp only[oN15,Act.put,zA,zB,zC]
    refine wpAnyH_ready (rs:=[10]) (by kernel_rfl) (by simp) ?_
    refine AllReadyH.cons (o:=oN10) rfl (fun K hK=>?_) AllReadyH.nil
    unfold oN10
    go_simp
    refine(iCmdL _ x _ ((NoOk lo∧NoOk hi)∧(1≤fk∧fk≤3)) 58 _ (NP _ x lo hi fk (w.heap.size+1+1+1+1+1+1)) (zu S2).r (zu HT) (fun _ _=>rfl) ((zu HF) _ (zu S2) (zu E2))).mono ?_
    intro e w3 hA
    obtain⟨a0,a1,a2,a3,a4,n0,n1,n2,n3,n4,j0,j1,j2,j3,j4,l,t,c,ls,gL,cL,rfl,s3,ow3,l120,ln,fin,frl⟩:=fin_net (zu HR) (zu S2) (zu L2) hA
    have S3:=zh s3
    have OL:=zh ow3
    have FN:=zh fin
    have LN:=zh ln
    have K7:=(zu S3).hold
    have z3:=frl.1
    have V0:=zh (box_frl (zu V0) frl (by omega))
    have zv:=(zu V0).lt
    have S4:=zh ((zu S3).kept (zu HR) (box_six (zu V0) (.slice a0 n0 j0) (.slice a1 n1 j1) (.slice a2 n2 j2) (.slice a3 n3 j3) (.slice a4 n4 j4) (.int .i64 l)).2 (by omega))
    have K8:=(zu S4).hold
    obtain⟨k0,k1,k2,k3,k4,k5⟩:=boxc (zu V0)
    obtain⟨v0,v1,v2,v3,v4,v5⟩:=boxf (zu V0)
    clear hA fin ow3 s3 ln frl
    go_wp2_with fail
    refine hK.out _ _ K7 (fun hHeld=>?_)
    clear hK K
    try simp only[oN10,Act.put,zA,zB,zC]
    refine tk 11 oN11 (.tuple #[.agg #[.slice a0 n0 j0,.slice a1 n1 j1,.slice a2 n2 j2,.slice a3 n3 j3,.slice a4 n4 j4,.int .i64 l],.int .i64 t,.int .i64 c]) rfl (by kernel_rfl) (fun _ _ _ h=>h) (by rfl) (fun w hSw=>?_) hHeld ?_
    ·(try dsimp only at hSw)
     unfold oN11
     go_simp
    try simp only[oN11,Act.put,zA,zB,zC]
    refine tk 12 oN12 (.agg #[.slice a0 n0 j0,.slice a1 n1 j1,.slice a2 n2 j2,.slice a3 n3 j3,.slice a4 n4 j4,.int .i64 l]) rfl (by kernel_rfl) (fun _ _ _ h=>h) (by rfl) (fun w hSw=>?_) hHeld ?_
    ·(try dsimp only at hSw)
     unfold oN12
     go_simp
    try simp only[oN12,Act.put,zA,zB,zC]
    refine tk 13 oN13 (.int .i64 t) rfl (by kernel_rfl) (fun _ _ _ h=>h) (by rfl) (fun w hSw=>?_) hHeld ?_
    ·(try dsimp only at hSw)
     unfold oN13
     go_simp
    try simp only[oN13,Act.put,zA,zB,zC]
    refine tk 14 oN14 (.int .i64 c) rfl (by kernel_rfl) (fun _ _ _ h=>h) (by rfl) (fun w hSw=>?_) hHeld ?_
    ·(try dsimp only at hSw)
     unfold oN14
     go_simp
    try simp only[oN14,Act.put,zA,zB,zC]
    refine wpAnyH_ready (rs:=[16]) (by kernel_rfl) (by simp) ?_
    refine AllReadyH.cons (o:=oN16) rfl (fun K hK=>?_) AllReadyH.nil
    unfold oN16
    go_simp
    refine hK.out _ _ K8 (fun hHeld=>?_)
    clear hK K
    try simp only[oN16,Act.put,zA,zB,zC]
    refine tk 17 oN17 (.int .i64 t) rfl (by kernel_rfl) (fun _ _ _ h=>h) (by rfl) (fun w hSw=>?_) hHeld ?_
    ·(try dsimp only at hSw)
     unfold oN17
     go_simp
    try simp only[oN17,Act.put,zA,zB,zC]
    refine tk 18 oN18 (.int .i64 c) rfl (by kernel_rfl) (fun _ _ _ h=>h) (by rfl) (fun w hSw=>?_) hHeld ?_
    ·(try dsimp only at hSw)
     unfold oN18
     go_simp
    try simp only[oN18,Act.put,zA,zB,zC]
    refine wpAnyH_done (by kernel_rfl) ?_ _
    go_wp2_with fail
    go_meet
    exact⟨_,a0,a1,a2,a3,a4,n0,n1,n2,n3,n4,j0,j1,j2,j3,j4,l,t,c,ls,gL,cL,rfl,rfl,rfl,S4,zh (box_six (zu V0) _ _ _ _ _ _).1,by omega,zh ((zu OL).kept (box_six (zu V0) (.slice a0 n0 j0) (.slice a1 n1 j1) (.slice a2 n2 j2) (.slice a3 n3 j3) (.slice a4 n4 j4) (.int .i64 l)).2 (fun e=>by injection e with e;exact SIssue.row_ne (zu V0) (zu OL) (by decide) e.symm)),l120,LN,zh ((zu FN).six (zu V0) _ _ _ _ _ _)⟩) AllReadyH.nil)
   unfold oN10
   go_simp
   refine(iCmdL _ x _ ((NoOk lo∧NoOk hi)∧(1≤fk∧fk≤3)) 58 _ (NP _ x lo hi fk (w.heap.size+1+1+1+1+1+1)) (zu S2).r (zu HT) (fun _ _=>rfl) ((zu HF) _ (zu S2) (zu E2))).mono ?_
   intro e w3 hA
   obtain⟨a0,a1,a2,a3,a4,n0,n1,n2,n3,n4,j0,j1,j2,j3,j4,l,t,c,ls,gL,cL,rfl,s3,ow3,l120,ln,fin,frl⟩:=fin_net (zu HR) (zu S2) (zu L2) hA
   have S3:=zh s3
   have OL:=zh ow3
   have FN:=zh fin
   have LN:=zh ln
   have K7:=(zu S3).hold
   have z3:=frl.1
   clear hA fin ow3 s3 ln frl
   go_wp2_with fail
   refine hK.out _ _ K7 (fun hHeld=>?_)
   clear hK K
   try simp only[oN10,Act.put,zA,zB,zC]
   refine tk 11 oN11 (.tuple #[.agg #[.slice a0 n0 j0,.slice a1 n1 j1,.slice a2 n2 j2,.slice a3 n3 j3,.slice a4 n4 j4,.int .i64 l],.int .i64 t,.int .i64 c]) rfl (by kernel_rfl) (fun _ _ _ h=>h) (by rfl) (fun w hSw=>?_) hHeld ?_
   ·(try dsimp only at hSw)
    unfold oN11
    go_simp
   try simp only[oN11,Act.put,zA,zB,zC]
   refine tk 12 oN12 (.agg #[.slice a0 n0 j0,.slice a1 n1 j1,.slice a2 n2 j2,.slice a3 n3 j3,.slice a4 n4 j4,.int .i64 l]) rfl (by kernel_rfl) (fun _ _ _ h=>h) (by rfl) (fun w hSw=>?_) hHeld ?_
   ·(try dsimp only at hSw)
    unfold oN12
    go_simp
   try simp only[oN12,Act.put,zA,zB,zC]
   refine tk 13 oN13 (.int .i64 t) rfl (by kernel_rfl) (fun _ _ _ h=>h) (by rfl) (fun w hSw=>?_) hHeld ?_
   ·(try dsimp only at hSw)
    unfold oN13
    go_simp
   try simp only[oN13,Act.put,zA,zB,zC]
   refine tk 14 oN14 (.int .i64 c) rfl (by kernel_rfl) (fun _ _ _ h=>h) (by rfl) (fun w hSw=>?_) hHeld ?_
   ·(try dsimp only at hSw)
    unfold oN14
    go_simp
   try simp only[oN14,Act.put,zA,zB,zC]
   refine wpAnyH_ready (rs:=[15]) (by kernel_rfl) (by simp) ?_
   refine AllReadyH.cons (o:=oN15) rfl (fun K hK=>?_) AllReadyH.nil
   unfold oN15
   go_simp
   refine hK.out _ _ ((zu S3).step (one_more w3 _)).hold (fun hHeld=>?_)
   clear hK K
   try simp only[oN15,Act.put,zA,zB,zC]
   refine wpAnyH_ready (rs:=[16]) (by kernel_rfl) (by simp) ?_
   refine AllReadyH.cons (o:=oN16) rfl (fun K hK=>?_) AllReadyH.nil
   unfold oN16
   go_simp
   refine hK.out _ _ ((zu S3).step (one_more w3 _)).hold (fun hHeld=>?_)
   clear hK K
   try simp only[oN16,Act.put,zA,zB,zC]
   refine tk 17 oN17 (.int .i64 t) rfl (by kernel_rfl) (fun _ _ _ h=>h) (by rfl) (fun w hSw=>?_) hHeld ?_
   ·(try dsimp only at hSw)
    unfold oN17
    go_simp
   try simp only[oN17,Act.put,zA,zB,zC]
   refine tk 18 oN18 (.int .i64 c) rfl (by kernel_rfl) (fun _ _ _ h=>h) (by rfl) (fun w hSw=>?_) hHeld ?_
   ·(try dsimp only at hSw)
    unfold oN18
    go_simp
   try simp only[oN18,Act.put,zA,zB,zC]
   refine wpAnyH_done (by kernel_rfl) ?_ _
   go_wp2_with fail
   go_meet
   exact⟨w3.heap.size,a0,a1,a2,a3,a4,n0,n1,n2,n3,n4,j0,j1,j2,j3,j4,l,t,c,ls,gL,cL,rfl,rfl,rfl,zh ((zu S3).step (one_more w3 _)),zh (Box.made _ _ _ _ _ _ (zu S3).b.size rfl),by have:=(zu S3).lt;omega,zh ((zu OL).alloc _),l120,LN,zh ((zu FN).alloc _)⟩
 case rest=>
  obtain⟨gN,a0,a1,a2,a3,a4,n0,n1,n2,n3,n4,j0,j1,j2,j3,j4,l,t,c,ls,gL,cL,rfl,rfl,rfl,TT,XN,hgN,OL,l120,LN,FI⟩:=hcut
  clear HF HT S0 SB L0 E0 hmf
  obtain⟨x0,x1,x2,x3,x4,x5⟩:=boxc (zu XN)
  have R:=zh (zu TT).v
  obtain⟨r0,r1,r2,r3,r4,r5⟩:=boxc (zu R)
  obtain⟨f0,f1,f2,f3,f4,f5⟩:=boxf (zu R)
  have ll:wc.cell? ⟨w.heap.size+1+1+1+1+1+1,0,none⟩=some (.slice (some ⟨gL,0,none⟩) ls.length cL):=by simp[World.cell?,(zu TT).l]
  have B9:=zh (zu TT).b
  clear TT
  go_wp2_with fail
  go_region
  all_goals
   go_wp2
   refine to_wb (fun W=>Box W w.heap.size (w.heap.size+1+1+1+1) (.slice a0 n0 j0) (.slice a1 n1 j1) (.slice a2 n2 j2) (.slice a3 n3 j3) (.slice a4 n4 j4) (.int .i64 l)∧Own3 67 W w.heap.size gL ls.length cL ls∧Fin (((NoOk lo∧NoOk hi)∧(1≤fk∧fk≤3))∧Ok x.b) x.b (fun b' t c=>IsNetP x.b (openT lo hi x.b.ts) fk b' ls t c) w.heap.size a0 a1 a2 a3 a4 n0 n1 n2 n3 n4 j0 j1 j2 j3 j4 l t c W∧Below w.heap.size w W) ⟨box_drew (box_six (zu R) _ _ _ _ _ _).1,own3_drew ((zu OL).kept (box_six (zu R) _ _ _ _ _ _).2 (fun e=>by injection e with e;exact SIssue.row_ne (zu R) (zu OL) (by decide) e.symm)),((zu FI).six (zu R) _ _ _ _ _ _).drew,(six (zu B9) (by omega) _ _ _ _ _ _).drew⟩ ?_
   rintro W ⟨X,O9,FJ,B2⟩
   obtain⟨g0,g1,g2,g3,g4,g5⟩:=boxc X
   exact bodyPost_ret (v:= .tuple #[.agg #[.slice a0 n0 j0,.slice a1 n1 j1,.slice a2 n2 j2,.slice a3 n3 j3,.slice a4 n4 j4,.int .i64 l],(.slice (some ⟨gL,0,none⟩) ls.length cL),.int .i64 t,.int .i64 c]) (by simp[results,Tryz.results18,go_sem,g0,g1,g2,g3,g4,g5]) rfl (fin_ansN FJ (zu LN) l120 O9 B2)
end NetTellI
namespace LaidE
open Errs
theorem star: "*" ++ "errors.errorString" = "*errors.errorString" :=by decide
theorem rowE(u:TypeId)(h:Tryz.prog.typeName? 3 u=some "*errors.errorString"):u=290:=
 typeName_ptr_named (nm:= "errors.errorString") (by rw[star];kernel_rfl) (by kernel_rfl) (by decide) u (by rw[star];exact h)
def Fits(W:World):List (String×DataW Unit)→List Addr→Prop
 |[],[]=>True
 |x::l,a::al=>(W.var? Tryz.prog x.1=some #[.iface 290 (.pointer (some a))]∧∃c t,W.heap[a.block]?=some (.cells c t (0,0)))∧Fits W l al
 |_,_=>False
def Named(l:List (String×DataW Unit)):Prop:=∀x∈l,(∃g,Tryz.prog.globalNamed x.1=some g∧(Tryz.prog.globals[g]?).map (·.type)=some 77)∧∃t,x.2= .iface "*errors.errorString" (.ptr (.agg [.lit (.string t)]))
theorem fits_of{W:World}:∀(l:List (String×DataW Unit)) (ps:List MemPlace),Named l→DataW.LaidVars Tryz.prog W l ps→(∀b off,MemPlace.cell b off∈ps→(∃c t,W.heap[b]?=some (.cells c t (0,0)))∧∀u v,W.cell? ⟨b,off,none⟩=some (.iface u v)→Value.okWide Tryz.prog W .any 0 u v)→∃al,Fits W l al∧(∀a∈al,MemPlace.cell a.block a.off∈ps)∧(ps.Nodup→al.Nodup)
 |[],ps,_,h,_=>⟨[],trivial,fun a ha=>by simp at ha,fun _=>by simp⟩
 |(n,d)::l,ps,hn,h,hr=>by
  obtain⟨⟨g',hg',ht'⟩,t',hd'⟩:=hn (n,d) (by simp)
  obtain⟨g,t,cs,fuel,p,q,hg,ht,hv,hd,hq,rfl⟩:=h
  obtain rfl:=Option.some.inj (hg.symm.trans hg')
  obtain rfl:=Option.some.inj (ht.symm.trans ht')
  simp only at hd'
  subst hd'
  obtain⟨cs⟩:=cs
  have ok:∀u v,cs=[.iface u v]→Value.okWide Tryz.prog W .any 0 u v:=fun u v e=>by
   subst e
   exact(hr g 0 (by simp[MemPlace.row])).2 u v (by simpa using World.var?_cell hg hv 0)
  obtain⟨a,s,rfl,hc,_,_,rfl⟩:=errorString_of_trod Tryz.underlying77 rowE Tryz.underlying290 Tryz.underlying314 rfl rfl Tryz.underlying9 (by kernel_rfl) (by kernel_rfl) hd ok
  obtain⟨al,h1,h2,h3⟩:=fits_of l q (fun x hx=>hn x (by simp[hx])) hq (fun b off hm=>hr b off (List.mem_append_right _ hm))
  have ma:MemPlace.cell a.block a.off∈MemPlace.row a 1:=by simp[MemPlace.row]
  refine⟨a::al,⟨⟨hv,(hr a.block a.off (List.mem_append_left _ (List.mem_append_right _ ma))).1⟩,h1⟩,fun b hb=>?_,fun nd=>?_⟩
  ·rcases List.mem_cons.1 hb with rfl|hb
   ·exact List.mem_append_left _ (List.mem_append_right _ ma)
   ·exact List.mem_append_right _ (h2 b hb)
  ·obtain⟨_,n2,n3⟩:=List.nodup_append.1 nd
   exact List.nodup_cons.2 ⟨fun m=>n3 _ (List.mem_append_right _ ma) _ (h2 a m) rfl,h3 n2⟩
theorem fits_laid{W:World}{l:List (String×DataW Unit)}(hn:Named l)(h:laidMet Tryz.prog l W):∃al,Fits W l al∧al.Nodup:=by
 obtain⟨ps,h1,h2,h3⟩:=h
 obtain⟨al,k1,_,k3⟩:=fits_of l ps hn h1 h3
 exact⟨al,k1,k3 h2⟩
theorem var_lt{W:World}{n:String}{g:Nat}{cs:Array Value}(hg:Tryz.prog.globalNamed n=some g)(h:W.var? Tryz.prog n=some cs):g<W.heap.size:=by
 unfold World.var? at h
 simp only[hg,Option.bind_some] at h
 rcases Nat.lt_or_ge g W.heap.size with q|q
 ·exact q
 ·simp[Array.getElem?_eq_none q] at h
theorem var_below{W W':World}{n:String}{cs:Array Value}(h:W.var? Tryz.prog n=some cs)(b:Below W.heap.size W W'):W'.var? Tryz.prog n=some cs:=by
 cases hg:Tryz.prog.globalNamed n with
 |none=>unfold World.var? at h;simp[hg] at h
 |some g=>
  have lt:=var_lt hg h
  unfold World.var? at h⊢
  simp only[hg,Option.bind_some] at h⊢
  rw[b.block g lt]
  exact h
def Holds(W:World):List String→List Nat→List Value→Prop
 |[],[],[]=>True
 |n::ns,g::gs,x::xs=>(Tryz.prog.globalNamed n=some g∧(Tryz.prog.globals[g]?).map (·.type)=some 77∧W.var? Tryz.prog n=some #[x]∧IsIface x)∧Holds W ns gs xs
 |_,_,_=>False
theorem Holds.below{W W':World}(b:Below W.heap.size W W'):∀{ns:List String} {gs:List Nat} {xs:List Value},Holds W ns gs xs→Holds W' ns gs xs
 |[],[],[],_=>trivial
 |_::_,_::_,_::_,⟨⟨h1,h2,h3,h4⟩,h5⟩=>⟨⟨h1,h2,var_below h3 b,h4⟩,h5.below b⟩
 |[],[],_::_,h=>h.elim
 |[],_::_,_,h=>h.elim
 |_::_,[],_,h=>h.elim
 |_::_,_::_,[],h=>h.elim
theorem Holds.read{H:Type}(enc:TypeId×Value→H){W:World}(sp:Nat→Bool):∀{ns:List String} {gs:List Nat} {xs:List Value},Holds W ns gs xs→DataW.TrodVars enc Tryz.prog W sp ns (xs.map (tok enc)) (gs.map (MemPlace.cell · 0))
 |[],[],[],_=>rfl
 |_::_,g::_,x::_,⟨⟨h1,h2,h3,h4⟩,h5⟩=>⟨g,77,#[x],1,[],_,h1,h2,h3,trod_held Tryz.underlying77 h4 0,h5.read enc sp,rfl⟩
 |[],[],_::_,h=>h.elim
 |[],_::_,_,h=>h.elim
 |_::_,[],_,h=>h.elim
 |_::_,_::_,[],h=>h.elim
def at5(a0 a1 a2 a3 a4:Addr)(k:Nat):Addr:=if k=0 then a0 else if k=1 then a1 else if k=2 then a2 else if k=3 then a3 else a4
theorem cell_of{W:World}{n:String}{g:Nat}{x:Value}(hg:Tryz.prog.globalNamed n=some g)(h:W.var? Tryz.prog n=some #[x]):W.cell? ⟨g,0,none⟩=some x:=by simpa using World.var?_cell hg h 0
theorem row_lt{W:World}{b:Nat}(h:∃c t,W.heap[b]?=some (.cells c t (0,0))):b<W.heap.size:=by
 obtain⟨c,t,e⟩:=h
 exact(Array.getElem?_eq_some_iff.1 e).1
end LaidE
end Go.Proofs.YtpkgkekonhgonaaGreatDoor
