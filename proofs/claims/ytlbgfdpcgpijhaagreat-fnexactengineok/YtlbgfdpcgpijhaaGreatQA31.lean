/- Texts of one proof. -/
import Derived.Test.YtlbgfdpcgpijhaaGreatQA30
open Go.ChangeShapes Go.WideShapes Go.ChangeAt Go.RowKit
set_option linter.unusedVariables false
set_option linter.unusedSimpArgs false
set_option maxRecDepth 100000
set_option maxHeartbeats 32000000
namespace Go.Proofs.YtlbgfdpcgpijhaaGreat
namespace MarkF14
open Fil14
def dg(k:Nat)(s:ByteArray):ByteArray:=if 0<k then dg (k/10) (strOfNums [48+(k:Int)%10]++s) else s
termination_by k
decreasing_by omega
def mt(k:Int):ByteArray:=⟨#[109]⟩++dg k.toNat ⟨#[]⟩
theorem dg_more{k:Nat}{s:ByteArray}(h:0<k):dg k s=dg (k/10) (strOfNums [48+(k:Int)%10]++s):=by rw[dg,if_pos h]
theorem dg_last{k:Nat}{s:ByteArray}(h:¬0<k):dg k s=s:=by rw[dg,if_neg h]
theorem markT(w:World)(k0:Int)(h0:0<k0)(h1:k0≤100000000):
  Calls Tryz.prog 168 #[.int .i64 k0] w fun e w'=>e= .returned (.string (mt k0))∧Below w.heap.size w w':=by
 obtain⟨r,hr⟩:∃r,Hid (mt k0=r):=⟨_,rfl⟩
 rw[zu hr]
 have S0:=zh (show(⟨#[109]⟩:ByteArray)++dg k0.toNat ⟨#[]⟩=r from zu hr)
 go_enter Tryz.func168,Tryz.ntmps168
 go_wp2
 go_loopw [0,3] (fun a o wr=>∃(k:Int) (s:ByteArray),a= .int .i64 k∧o= .string s∧0≤k∧k≤100000000∧Hid ((⟨#[109]⟩:ByteArray)++dg k.toNat s=r)∧Hid (s.size+k.toNat≤100000000)∧Hid (Below w.heap.size w wr)) (fun a _ _=>(intOf a).toNat)
 case atStart=>exact⟨k0,⟨#[]⟩,rfl,rfl,by omega,h1,S0,zh (by have:(⟨#[]⟩:ByteArray).size=0:=rfl;omega),zh (Below.refl _ _)⟩
 case round=>
  clear S0 h0 h1
  obtain⟨k,s,rfl,rfl,k1,k2,HD,HZ,HB⟩:=hrel
  have hz:=zu HZ
  by_cases t:0<k
  ·have ND:=zh (show(⟨#[109]⟩:ByteArray)++dg (k/10).toNat (strOfNums [48+k%10]++s)=r from by
    rw[←zu HD,dg_more (k:=k.toNat) (by omega),show((k.toNat:Nat):Int)=k by omega,show k.toNat/10=(k/10).toNat by omega])
   have CV:=run_convert_bytes_arg (P:=Tryz.prog) (wr.alloc (.cells #[.int .u8 (48+k%10)] 5)) 196 5 Tryz.underlying196 Tryz.underlying5 wr.heap.size 0 1 1 [48+k%10] rfl (fun i hi=>by
    have:i=0:=by omega
    subst this
    simp) 9 Tryz.underlying9
   have cz:=strOfNums_size [48+k%10]
   have E:=zh (show wrap64 (k.tdiv 10)=k/10 from by rw[Int.tdiv_eq_ediv_of_nonneg k1,wrap64];omega)
   have B1:=zh ((zu HB).alloc (zu HB).size (.cells #[.int .u8 (48+k%10)] 5))
   have KK:=zh (And.intro k1 k2)
   have cz1:(strOfNums [48+k%10]).size=1:=cz
   obtain⟨c,hc⟩:∃c,Hid (strOfNums [48+k%10]=c):=⟨_,rfl⟩
   rw[zu hc] at CV ND cz1
   have sz:¬(c.size+s.size>9223372036854775807):=by omega
   have CZ:=zh cz1
   clear cz cz1 hc HD
   go_wp2
   go_roundw
   case rel=>
    have kk:=zu KK
    exact⟨k/10,c++s,by first|rfl|(congr 1;exact zu E),rfl,by omega,by omega,ND,zh (by have:=zu CZ;rw[ByteArray.size_append];omega),B1⟩
   case measure=>
    have kk:=zu KK
    have e:=zu E
    simp[intOf]
    omega
  ·have e:k=0:=by omega
   subst e
   have D:=zu HD
   rw[dg_last (by simp)] at D
   have HD2:=zh D
   have sz:¬((⟨#[109]⟩:ByteArray).size+s.size>9223372036854775807):=by have:(⟨#[109]⟩:ByteArray).size=1:=rfl;omega
   clear D HD
   go_wp2
   go_ret
   exact⟨by rw[←zu HD2];rfl,zu HB⟩
end MarkF14
namespace MarkFS14
open Fil14 MarkF14
def marks(s:Int)(n:Nat):List TF:=(List.range n).map fun(i:Nat)=>(s+3*(i:Int),mt (s+3*(i:Int)+1),mt (s+3*(i:Int)+2))
theorem marks_len(s:Int)(n:Nat):(marks s n).length=n:=by simp[marks]
theorem marks_getD(s:Int)(n i:Nat)(h:i<n):elF (marks s n) i=(s+3*(i:Int),mt (s+3*(i:Int)+1),mt (s+3*(i:Int)+2)):=by simp[marks,List.getD,h]
def marked(s:Int)(ps:List TF)(n j:Nat):List TF:=(marks s n).take j++ps.drop j
theorem marked_zero(s:Int)(ps:List TF)(n:Nat):marked s ps n 0=ps:=by simp[marked]
theorem marked_all(s:Int)(ps:List TF)(n:Nat)(h:ps.length=n):marked s ps n n=marks s n:=by
 unfold marked
 rw[List.take_of_length_le (by rw[marks_len];exact Nat.le_refl _),List.drop_of_length_le (by omega),List.append_nil]
theorem marked_step(s:Int)(ps:List TF)(n j:Nat)(h:ps.length=n)(hj:j<n):(((marked s ps n j).modify j fun p=>(s+3*(j:Int),p.2)).modify j (fun p=>(p.1,mt (s+3*(j:Int)+1),p.2.2))).modify j (fun p=>(p.1,p.2.1,mt (s+3*(j:Int)+2)))=marked s ps n (j+1):=by
 unfold marked
 have l:=marks_len s n
 have g:=marks_getD s n j hj
 have l1:((marks s n).take j).length=j:=by simp;omega
 have l2:((marks s n).take (j+1)).length=j+1:=by simp;omega
 apply List.ext_getElem?
 intro i
 rw[List.getElem?_modify,List.getElem?_modify,List.getElem?_modify]
 by_cases e:j=i
 ·subst e
  rw[List.getElem?_append_right (by omega),List.getElem?_append_left (by omega),List.getElem?_take,if_pos (by omega),l1]
  have hg:(marks s n)[j]?=some (s+3*(j:Int),mt (s+3*(j:Int)+1),mt (s+3*(j:Int)+2)):=by
   rw[←g];simp[List.getD,l,hj]
  rw[hg]
  simp[List.getElem?_drop,h,hj]
 ·by_cases d:i<j
  ·rw[List.getElem?_append_left (by omega),List.getElem?_append_left (by omega),List.getElem?_take,List.getElem?_take,if_pos d,if_pos (by omega)]
   simp[e]
  ·rw[List.getElem?_append_right (by omega),List.getElem?_append_right (by omega),l1,l2]
   simp only[List.getElem?_drop]
   rw[show j+(i-j)=i by omega,show j+1+(i-(j+1))=i by omega]
   simp[e]
theorem markS(w:World)(base g n cap:Nat)(s:Int)(ps:List TF)(h20:n≤1048576)(s0:1≤s)(s1:s≤90000000)(hb0:base≤w.heap.size)(ho:OwnF 64 w base g n cap ps):
  Calls Tryz.prog 102 #[.slice (some ⟨g,0,none⟩) n cap,.int .i64 s] w fun e w'=>e= .returned (.int .i64 (s+3*(n:Int)))∧OwnF 64 w' base g n cap (marks s n)∧w.grownBy w' (some g):=by
 have hl:=ho.len
 have ho':OwnF 64 w base g n cap (marked s ps n 0):=by rw[marked_zero];exact ho
 clear ho
 go_enter Tryz.func102,Tryz.ntmps102
 go_wp2
 go_loopw [1,5] (fun m i wr=>∃(k:Nat),k≤n∧i= .int .i64 k∧m= .int .i64 (s+3*(k:Int))∧OwnF 64 wr base g n cap (marked s ps n k)∧w.grownBy wr (some g)) (fun _ i _=>n-(intOf i).toNat)
 case atStart=>exact⟨0,by omega,rfl,by go_num,ho',World.grownBy.refl _ _⟩
 case round=>
  clear ho'
  obtain⟨k,hk,rfl,rfl,hown,hg⟩:=hrel
  by_cases t:k<n
  ·obtain⟨o1,q1⟩:=hown.set0 k (s+3*(k:Int))
   obtain⟨hd0,hd1,hd2⟩:=hown.at k (by rw[OwnF.len hown];exact t)
   have hf0:=hown.free (k*3)
   have HO1:=zh o1
   have HG1:=zh (grown_trans hg q1)
   have ms:=marked_step s ps n k hl t
   rw[show s+3*(k:Int)+2=s+3*(k:Int)+1+1 by omega] at ms
   have MS:=zh ms
   clear ms
   clear hown hg o1 q1 hd1 hd2
   generalize (elF (marked s ps n k) k).1=z0 at hd0
   generalize marked s ps n k=mk at *
   have r1:IntKind.i64.wrap (s+3*(k:Int)+1)=s+3*(k:Int)+1:=by rw[IntKind.wrap_i64];omega
   have r2:IntKind.i64.wrap (s+3*(k:Int)+1+1)=s+3*(k:Int)+1+1:=by rw[IntKind.wrap_i64];omega
   have r3:IntKind.i64.wrap (s+3*(k:Int)+1+1+1)=s+3*(k:Int)+1+1+1:=by rw[IntKind.wrap_i64];omega
   go_wp2_with fail
   refine(markT _ (s+3*(k:Int)+1) (by omega) (by omega)).mono ?_
   rintro e u1 ⟨rfl,bb⟩
   have a1:=(zu HO1).below bb (zu HO1).lt.2
   have G2:=zh (grown_trans (zu HG1) ⟨bb.os,bb.tape,bb.output,bb.size,fun i hi _=>bb.block i hi⟩)
   obtain⟨o2,q2⟩:=a1.set1 k (mt (s+3*(k:Int)+1))
   obtain⟨_,hd1,_⟩:=a1.at k (by rw[OwnF.len a1];exact t)
   have hf1:=a1.free (k*3+1)
   have HO2:=zh o2
   have HG2:=zh (grown_trans (zu G2) q2)
   clear bb a1 o2 q2 G2 HO1 HG1 hd0 hf0
   generalize (elF (mk.modify k fun p=>(s+3*(k:Int),p.2)) k).2.1=z1 at hd1
   generalize mk.modify k (fun p=>(s+3*(k:Int),p.2))=mk1 at *
   go_wp2_with fail
   refine(markT _ (s+3*(k:Int)+1+1) (by omega) (by omega)).mono ?_
   rintro e u2 ⟨rfl,bb⟩
   have a2:=(zu HO2).below bb (zu HO2).lt.2
   have G3:=zh (grown_trans (zu HG2) ⟨bb.os,bb.tape,bb.output,bb.size,fun i hi _=>bb.block i hi⟩)
   obtain⟨o3,q3⟩:=a2.set2 k (mt (s+3*(k:Int)+1+1))
   obtain⟨_,_,hd2⟩:=a2.at k (by rw[OwnF.len a2];exact t)
   have hf2:=a2.free (k*3+2)
   have HO3:=zh o3
   have HG3:=zh (grown_trans (zu G3) q3)
   clear bb a2 o3 q3 G3 HO2 HG2 hd1 hf1
   generalize (elF (mk1.modify k fun p=>(p.1,mt (s+3*(k:Int)+1),p.2.2)) k).2.2=z2 at hd2
   go_wp2
   go_roundw
   case rel=>exact⟨k+1,by omega,by go_num,by go_num,by have h:=zu HO3;rw[zu MS] at h;exact h,zu HG3⟩
   case measure=>simp[intOf];omega
  ·obtain rfl:k=n:=by omega
   rw[marked_all s ps k hl] at hown
   have HO:=zh hown
   have HG:=zh hg
   clear hown hg
   go_wp2
   go_ret
   exact⟨rfl,zu HO,zu HG⟩
theorem heldS(w:World)(g n cap:Nat)(s:Int)(h20:n≤1048576)(s0:1≤s)(s1:s≤90000000)(lg:g<w.heap.size)(h:AtF w g (marks s n)):
  Calls Tryz.prog 108 #[.slice (some ⟨g,0,none⟩) n cap,.int .i64 s] w fun e w'=>e= .returned (.int .i64 (s+3*(n:Int)))∧Below w.heap.size w w':=by
 have H:=zh h
 clear h
 go_enter Tryz.func108,Tryz.ntmps108
 go_wp2
 go_loopw [1,5] (fun m i wr=>∃(k:Nat),k≤n∧i= .int .i64 k∧m= .int .i64 (s+3*(k:Int))∧Hid (Below w.heap.size w wr)) (fun _ i _=>n-(intOf i).toNat)
 case atStart=>exact⟨0,by omega,rfl,by go_num,zh (Below.refl _ _)⟩
 case round=>
  obtain⟨k,hk,rfl,rfl,HB⟩:=hrel
  by_cases t:k<n
  ·obtain⟨e1,e2,e3⟩:=((zu H).below (zu HB) lg) k (by rw[marks_len];exact t)
   rw[marks_getD s n k t] at e1 e2 e3
   have K1:wr.cell? ⟨g,k*3+1,none⟩=some (.string (mt (s+3*(k:Int)+1))):=e2
   replace e3:wr.cell? ⟨g,k*3+2,none⟩=some (.string (mt (s+3*(k:Int)+1+1))):=by rw[e3,show s+3*(k:Int)+1+1=s+3*(k:Int)+2 by omega]
   have r1:IntKind.i64.wrap (s+3*(k:Int)+1)=s+3*(k:Int)+1:=by rw[IntKind.wrap_i64];omega
   have r2:IntKind.i64.wrap (s+3*(k:Int)+1+1)=s+3*(k:Int)+1+1:=by rw[IntKind.wrap_i64];omega
   have r3:IntKind.i64.wrap (s+3*(k:Int)+1+1+1)=s+3*(k:Int)+1+1+1:=by rw[IntKind.wrap_i64];omega
   clear e2
   go_wp2_with fail
   refine wp_region_held_drew (S:=(fun w'=>w'.cell? ⟨g,k*3+1,none⟩=some (.string (mt (s+3*(k:Int)+1))))) (by kernel_rfl) K1 (fun hHeld=>?_)
   refine zT 0 (.slice (some ⟨g,0,none⟩) n cap) rfl hHeld ?_
   refine zT 1 (.int .i64 k) rfl hHeld ?_
   refine zT 2 (.pointer (some ⟨g,k*3,none⟩)) rfl hHeld ?_
   refine zT 3 (.pointer (some ⟨g,k*3+1,none⟩)) rfl hHeld ?_
   refine zT 4 (.string (mt (s+3*(k:Int)+1))) rfl hHeld ?_
   refine zT 5 (.int .i64 (s+3*(k:Int)+1)) rfl hHeld ?_
   try simp only[Act.put,zA,zB,zC]
   refine zR 6 rfl (fun K hK=>?_)
   go_simp
   go_wp2_with fail
   refine(markT _ (s+3*(k:Int)+1) (by omega) (by omega)).mono ?_
   rintro e u1 ⟨rfl,bb⟩
   have bu1:=zh (show Below wr.heap.size wr u1 from⟨bb.os,bb.tape,bb.output,bb.size,bb.block⟩)
   have Ku1:u1.cell? ⟨g,k*3+1,none⟩=some (.string (mt (s+3*(k:Int)+1))):=((zu bu1).cell (p:=⟨g,k*3+1,none⟩) (Nat.lt_of_lt_of_le lg (zu HB).size)).trans K1
   clear bb
   go_wp2_with fail
   refine hK.out _ _ Ku1 (fun hHeld=>?_)
   clear hK K
   refine zT 7 (.bool false) rfl hHeld ?_
   try simp only[Act.put,zA,zB,zC]
   refine wpAnyH_done (by kernel_rfl) ?_ _
   have B1:=zh ((zu HB).trans ((zu bu1).mono (zu HB).size))
   have K2:u1.cell? ⟨g,k*3+2,none⟩=some (.string (mt (s+3*(k:Int)+1+1))):=((zu bu1).cell (p:=⟨g,k*3+2,none⟩) (Nat.lt_of_lt_of_le lg (zu HB).size)).trans e3
   clear K1 Ku1
   go_wp2_with fail
   refine wp_region_held_drew (S:=(fun w'=>w'.cell? ⟨g,k*3+2,none⟩=some (.string (mt (s+3*(k:Int)+1+1))))) (by kernel_rfl) K2 (fun hHeld=>?_)
   refine zT 0 (.slice (some ⟨g,0,none⟩) n cap) rfl hHeld ?_
   refine zT 1 (.int .i64 k) rfl hHeld ?_
   refine zT 2 (.pointer (some ⟨g,k*3,none⟩)) rfl hHeld ?_
   refine zT 3 (.pointer (some ⟨g,k*3+2,none⟩)) rfl hHeld ?_
   refine zT 4 (.string (mt (s+3*(k:Int)+1+1))) rfl hHeld ?_
   refine zT 5 (.int .i64 (s+3*(k:Int)+1+1)) rfl hHeld ?_
   try simp only[Act.put,zA,zB,zC]
   refine zR 6 rfl (fun K hK=>?_)
   go_simp
   go_wp2_with fail
   refine(markT _ (s+3*(k:Int)+1+1) (by omega) (by omega)).mono ?_
   rintro e u2 ⟨rfl,bb⟩
   have bu2:=zh (show Below u1.heap.size u1 u2 from⟨bb.os,bb.tape,bb.output,bb.size,bb.block⟩)
   have Ku2:u2.cell? ⟨g,k*3+2,none⟩=some (.string (mt (s+3*(k:Int)+1+1))):=((zu bu2).cell (p:=⟨g,k*3+2,none⟩) (Nat.lt_of_lt_of_le lg (zu B1).size)).trans K2
   clear bb
   go_wp2_with fail
   refine hK.out _ _ Ku2 (fun hHeld=>?_)
   clear hK K
   refine zT 7 (.bool false) rfl hHeld ?_
   try simp only[Act.put,zA,zB,zC]
   refine wpAnyH_done (by kernel_rfl) ?_ _
   have B2:=zh ((zu B1).trans ((zu bu2).mono (zu B1).size))
   clear K2 Ku2 bu2
   go_wp2
   go_roundw
   case rel=>exact⟨k+1,by omega,by go_num,by go_num,B2⟩
   case measure=>simp[intOf];omega
  ·obtain rfl:k=n:=by omega
   go_wp2
   go_ret
   exact⟨rfl,zu HB⟩
end MarkFS14
namespace DkH14
open Fil14 OpensF14 DiskH14
open MarkFS14 (marks marks_len)
structure Dx where
 room:Int
 a:Option Addr
 c:Nat
 ps:List TF
structure RdD(w:World)(x:Dx):Prop where
 e:x.ps.length≠0→∃g,x.a=some ⟨g,0,none⟩
 r:∀g,x.a=some ⟨g,0,none⟩→g<w.heap.size∧AtF w g x.ps
 n:x.ps.length≤1048576
theorem RdD.below{w w':World}{x:Dx}(h:RdD w x)(k:Below w.heap.size w w'):RdD w' x:=⟨h.e,fun g e=>⟨Nat.lt_of_lt_of_le (h.r g e).1 k.size,(h.r g e).2.below k (h.r g e).1⟩,h.n⟩
def OwD(w:World)(base:Nat)(x:Dx):Prop:=w.ownsRow base 64 3 (.slice x.a x.ps.length x.c) x.ps.length (flatF x.ps)
def OmD(w:World)(base:Nat)(x:Dx):Prop:=w.ownsRow base 64 3 (.slice x.a x.ps.length x.c) x.ps.length (flatF (marks 1 x.ps.length))
theorem row_step{W W':World}{base:Nat}{e:TypeId}{m:Nat}{v:Value}{n:Nat}{vs:List Value}(h:W.ownsRow base e m v n vs)(k:Below W.heap.size W W'):W'.ownsRow base e m v n vs:=
 World.ownsRow.kept h (row:=none) ⟨k.os,k.tape,k.output,k.size,fun i hi _=>k.block i hi⟩ (by
  cases hb:v.ownBlock with
  |none=>exact .inl rfl
  |some g=>exact .inr (by simp))
theorem addr_of{W:World}{base:Nat}{e:TypeId}{m n c:Nat}{a:Option Addr}{vs:List Value}(h:W.ownsRow base e m (.slice a n c) n vs):(n≠0→∃g,a=some ⟨g,0,none⟩)∧∀g,a=some ⟨g,0,none⟩→g<W.heap.size:=by
 refine⟨fun hn=>?_,fun g e=>(World.ownsRow.lt h g (by rw[e];rfl)).2⟩
 rcases h.2 with⟨h1,_⟩|⟨g,c',cur,h1,_⟩
 ·have:n=0:=by simp at h1;omega
  exact absurd this hn
 ·have:a=some ⟨g,0,none⟩∧c=c':=by simpa using h1
  exact⟨g,this.1⟩
theorem OwD.rd{w:World}{base:Nat}{x:Dx}(h:OwD w base x)(hn:x.ps.length≤1048576):RdD w x:=by
 refine⟨(addr_of h).1,fun g e=>⟨(addr_of h).2 g e,?_⟩,hn⟩
 have o:=h
 unfold OwD at o
 rw[e] at o
 exact OwnF.at o
theorem OwD.step{w w':World}{base:Nat}{x:Dx}(h:OwD w base x)(k:Below w.heap.size w w'):OwD w' base x:=row_step h k
theorem OmD.step{w w':World}{base:Nat}{x:Dx}(h:OmD w base x)(k:Below w.heap.size w w'):OmD w' base x:=row_step h k
def Bc(w:World)(base g:Nat)(v0 v1:Value):Prop:=w.ownsRow base 38 2 (.slice (some ⟨g,0,none⟩) 1 1) 1 [v0,v1]
theorem Bc.made{w:World}{base g:Nat}(v0 v1:Value)(hb:base≤w.heap.size)(hg:g=w.heap.size):Bc (w.alloc (.cells #[v0,v1] 38)) base g v0 v1:=by
 subst hg
 exact⟨rfl,.inr ⟨w.heap.size,1,#[v0,v1],rfl,hb,heap_alloc_new w _,Nat.le_refl _,by unfold maxLen;omega,rfl,rfl⟩⟩
section
variable {w w':World} {base g:Nat} {v0 v1:Value}
theorem Bc.lt(h:Bc w base g v0 v1):base≤g∧g<w.heap.size:=World.ownsRow.lt h g rfl
theorem Bc.free(h:Bc w base g v0 v1)(i:Nat):w.frozen? ⟨g,i,none⟩=false:=World.ownsRow.frozenAt h i
theorem Bc.c0(h:Bc w base g v0 v1):w.cell? ⟨g,0,none⟩=some v0:=(World.ownsRow.cellAt h 0 (by omega)).trans rfl
theorem Bc.c1(h:Bc w base g v0 v1):w.cell? ⟨g,1,none⟩=some v1:=(World.ownsRow.cellAt h 1 (by omega)).trans rfl
theorem Bc.set0(h:Bc w base g v0 v1)(u:Value):Bc (w.setCell ⟨g,0,none⟩ u) base g u v1∧w.grownBy (w.setCell ⟨g,0,none⟩ u) (some g):=World.ownsRow.stored h 0 u
theorem Bc.kept{row:Option Nat}(h:Bc w base g v0 v1)(k:w.grownBy w' row)(hne:some g≠row):Bc w' base g v0 v1:=World.ownsRow.kept h k (Or.inr hne)
theorem Bc.below{B:Nat}(h:Bc w base g v0 v1)(k:Below B w w')(hg:g<B):Bc w' base g v0 v1:=by
 refine⟨h.1,?_⟩
 rcases h.2 with⟨h1,_⟩|⟨g',c,cur,h1,h2,h3,h4⟩
 ·simp at h1
 ·have e:g=g':=by simp at h1;exact h1.1
  subst e
  exact .inr ⟨g,c,cur,h1,h2,(k.block g hg).trans h3,h4⟩
end
theorem row_store{w:World}{base g n cap:Nat}{xs:List TF}(h:OwnF 64 w base g n cap xs){a:Addr}(ha:a.block<base)(u:Value):OwnF 64 (w.setCell a u) base g n cap xs:=ownsRow_setCell_below h ha u
theorem toD0(w:World)(k:Int)(a:Option Addr)(len cap:Nat)(xs:List TF)(hl:xs.length=len)(h20:len≤1048576)(hr:ReadsF w a xs):
  Calls Tryz.prog 30 #[.agg #[.int .i64 k,.slice a len cap]] w fun e w'=>∃g,e= .returned (.agg #[.int .i64 k,.slice (some ⟨g,0,none⟩) len len])∧OwnF 64 w' w.heap.size g len len xs∧Below w.heap.size w w':=by
 have F:∀W1,W1=w.alloc (.cells #[.int .i64 k,.slice a len cap] 24)→∀W2,W2=W1.alloc (.cells #[.int .i64 0,.slice none 0 0] 38)→∀W3,W3=W2.alloc (.cells #[.int .i64 k,.slice none 0 0] 38)→
   Below w.heap.size w W3∧Bc W3 w.heap.size (w.heap.size+1) (.int .i64 0) (.slice none 0 0)∧Bc W3 w.heap.size (w.heap.size+1+1) (.int .i64 k) (.slice none 0 0)∧W3.heap.size=w.heap.size+3:=by
  intro W1 h1 W2 h2 W3 h3
  have s1:W1.heap.size=w.heap.size+1:=by rw[h1];simp
  have s2:W2.heap.size=w.heap.size+1+1:=by rw[h2];simp[s1]
  have s3:W3.heap.size=w.heap.size+3:=by rw[h3];simp[s2]
  have b1:Below w.heap.size w W1:=by rw[h1];exact one_more _ _
  have b2:Below W1.heap.size W1 W2:=by rw[h2];exact one_more _ _
  have b3:Below W2.heap.size W2 W3:=by rw[h3];exact one_more _ _
  have R1:Bc W2 w.heap.size (w.heap.size+1) (.int .i64 0) (.slice none 0 0):=by rw[h2];exact Bc.made _ _ (by omega) s1.symm
  have O1:Bc W3 w.heap.size (w.heap.size+1+1) (.int .i64 k) (.slice none 0 0):=by rw[h3];exact Bc.made _ _ (by omega) s2.symm
  exact⟨(b1.trans (b2.mono (by omega))).trans (b3.mono (by omega)),R1.below b3 (by omega),O1,s3⟩
 have G:=zh (F _ rfl _ rfl _ rfl)
 have HR:=zh hr
 clear F hr
 go_enter Tryz.func30,Tryz.ntmps30
 go_wp2_with fail
 refine(HelpF14.toS _ a len cap xs hl h20 ((zu HR).below (zu G).1)).mono ?_
 rintro e w1 ⟨rfl,o,bb⟩
 obtain⟨BW,R0,O0,s3⟩:=zu G
 rw[s3] at o
 have R1:=R0.below bb (by omega)
 have O1:=O0.below bb (by omega)
 have B1:=zh (BW.trans (bb.mono BW.size))
 have OX:=zh o
 have z1:=bb.size
 have c0:=O1.c0
 have c1:=O1.c1
 have d0:=O1.free 0
 have d1:=O1.free 1
 have r0:=R1.c0
 have r1:=R1.c1
 have f0:=R1.free 0
 have f1:=R1.free 1
 clear bb o BW R0 O0 G HR R1 O1
 simp only[s3] at *
 go_wp2
 refine bodyPost_ret (v:= .agg #[.int .i64 k,.slice (some ⟨w.heap.size+3,0,none⟩) len len]) (by simp[results,Tryz.results30,go_sem,r0,r1]) rfl ⟨w.heap.size+3,rfl,?_,?_⟩
 ·exact(row_store (row_store (row_store (zu OX) (a:=⟨w.heap.size+1+1,1,none⟩) (by simp) _) (a:=⟨w.heap.size+1,0,none⟩) (by simp) _) (a:=⟨w.heap.size+1,1,none⟩) (by simp) _).rebase (by omega)
 ·exact(((zu B1).setCell (p:=⟨w.heap.size+1+1,1,none⟩) (by simp;omega) _).setCell (p:=⟨w.heap.size+1,0,none⟩) (by simp) _).setCell (p:=⟨w.heap.size+1,1,none⟩) (by simp) _
theorem toD(w:World)(room:Int)(a:Option Addr)(len cap:Nat)(ps:List TF)(hl:ps.length=len)(h20:len≤1048576)(hr:ReadsF w a ps):
  Calls Tryz.prog 30 #[.agg #[.int .i64 room,.slice a len cap]] w fun e w'=>∃x:Dx,x.room=room∧x.ps=ps∧e= .returned (.agg #[.int .i64 x.room,.slice x.a x.ps.length x.c])∧OwD w' w.heap.size x∧Below w.heap.size w w':=
 (toD0 w room a len cap ps hl h20 hr).mono fun e w' ⟨g,h1,h2,h3⟩=>⟨⟨room,some ⟨g,0,none⟩,len,ps⟩,rfl,rfl,by subst hl;exact h1,by subst hl;exact h2,h3⟩
theorem eqN(w:World)(a1 a2:Option Addr)(c1 c2:Nat):Calls Tryz.prog 96 #[.slice a1 0 c1,.slice a2 0 c2] w fun e w'=>e= .returned (.bool true)∧w'=w:=by
 go_enter Tryz.func96,Tryz.ntmps96
 go_wp2
 go_loopw [5] (fun j wr=>j= .int .i64 0∧wr=w) (fun _ _=>0)
 case atStart=>exact⟨rfl,rfl⟩
 case round=>
  obtain⟨rfl,rfl⟩:=hrel
  go_wp2
  go_ret
  exact⟨rfl,rfl⟩
theorem eqV(w:World)(x y:Dx)(hp:y.ps=x.ps)(hx:RdD w x)(hy:RdD w y):Calls Tryz.prog 96 #[.slice x.a x.ps.length x.c,.slice y.a x.ps.length y.c] w fun e w'=>e= .returned (.bool true)∧Below w.heap.size w w':=by
 by_cases z:x.ps.length=0
 ·rw[z]
  exact(eqN w _ _ _ _).mono fun e w' ⟨h1,h2⟩=>⟨h1,by rw[h2];exact Below.refl _ _⟩
 ·obtain⟨g1,e1⟩:=hx.e z
  obtain⟨g2,e2⟩:=hy.e (by rw[hp];exact z)
  have a1:=hx.r g1 e1
  have a2:=hy.r g2 e2
  rw[hp] at a2
  rw[e1,e2]
  exact HelpF14.eqS w g1 g2 _ _ _ x.ps rfl hx.n a1.1 a2.1 a1.2 a2.2
theorem eqD(w:World)(x y:Dx)(hr:y.room=x.room)(hp:y.ps=x.ps)(hx:RdD w x)(hy:RdD w y):
  Calls Tryz.prog 38 #[.agg #[.int .i64 x.room,.slice x.a x.ps.length x.c],.agg #[.int .i64 y.room,.slice y.a y.ps.length y.c]] w fun e w'=>e= .returned (.bool true)∧Below w.heap.size w w':=by
 have b1:=one_more w (.cells #[.int .i64 x.room,.slice x.a x.ps.length x.c] 38)
 have b2:=one_more (w.alloc (.cells #[.int .i64 x.room,.slice x.a x.ps.length x.c] 38)) (.cells #[.int .i64 y.room,.slice y.a y.ps.length y.c] 38)
 have B:=zh (b1.trans (b2.mono b1.size))
 have E:=zh (eqV _ x y hp (hx.below (zu B)) (hy.below (zu B)))
 rw[hr,hp] at B⊢
 rw[hr,hp] at E
 have q:(x.room !=x.room)=false:=by simp
 clear hx hy b1 b2 hr hp
 go_enter Tryz.func38,Tryz.ntmps38
 go_wp2_with fail
 refine(zu E).mono ?_
 rintro e u ⟨rfl,bb⟩
 have B2:=zh ((zu B).trans (bb.mono (zu B).size))
 clear bb
 go_wp2
 go_ret
 exact⟨rfl,zu B2⟩
theorem markN(w:World)(a:Option Addr)(c:Nat)(s:Int):Calls Tryz.prog 102 #[.slice a 0 c,.int .i64 s] w fun e w'=>e= .returned (.int .i64 s)∧w'=w:=by
 go_enter Tryz.func102,Tryz.ntmps102
 go_wp2
 go_loopw [1,5] (fun m j wr=>m= .int .i64 s∧j= .int .i64 0∧wr=w) (fun _ _ _=>0)
 case atStart=>exact⟨rfl,rfl,rfl⟩
 case round=>
  obtain⟨rfl,rfl,rfl⟩:=hrel
  go_wp2
  go_ret
  exact⟨rfl,rfl⟩
theorem heldN(w:World)(a:Option Addr)(c:Nat)(s:Int):Calls Tryz.prog 108 #[.slice a 0 c,.int .i64 s] w fun e w'=>e= .returned (.int .i64 s)∧w'=w:=by
 go_enter Tryz.func108,Tryz.ntmps108
 go_wp2
 go_loopw [1,5] (fun m j wr=>m= .int .i64 s∧j= .int .i64 0∧wr=w) (fun _ _ _=>0)
 case atStart=>exact⟨rfl,rfl,rfl⟩
 case round=>
  obtain⟨rfl,rfl,rfl⟩:=hrel
  go_wp2
  go_ret
  exact⟨rfl,rfl⟩
theorem markV(w:World)(base:Nat)(x:Dx)(hn:x.ps.length≤1048576)(hb:base≤w.heap.size)(ho:OwD w base x):
  Calls Tryz.prog 102 #[.slice x.a x.ps.length x.c,.int .i64 1] w fun e w'=>e= .returned (.int .i64 (1+3*(x.ps.length:Int)))∧OmD w' base x∧w.grownBy w' (Value.slice x.a x.ps.length x.c).ownBlock:=by
 unfold OwD at ho
 unfold OmD
 generalize hl:x.ps.length=n at *
 generalize x.a=a at *
 generalize x.c=c at *
 have ho':=ho
 rcases ho.2 with⟨h1,h2⟩|⟨g,c',cur,h1,_⟩
 ·obtain⟨rfl,_,rfl⟩:a=none∧n=0∧c=0:=by simpa using h1
  subst h2
  exact(markN w _ _ 1).mono fun e w' ⟨q1,q2⟩=>⟨by rw[q1];simp,by rw[q2];exact World.ownsRow_nil w base _ _,by rw[q2];exact World.grownBy.refl _ _⟩
 ·obtain⟨rfl,rfl⟩:a=some ⟨g,0,none⟩∧c=c':=by simpa using h1
  exact MarkFS14.markS w base g n c 1 x.ps hn (by omega) (by omega) hb ho'
theorem heldV(w:World)(base:Nat)(x:Dx)(hn:x.ps.length≤1048576)(ho:OmD w base x):
  Calls Tryz.prog 108 #[.slice x.a x.ps.length x.c,.int .i64 1] w fun e w'=>e= .returned (.int .i64 (1+3*(x.ps.length:Int)))∧Below w.heap.size w w':=by
 unfold OmD at ho
 generalize hl:x.ps.length=n at *
 generalize x.a=a at *
 generalize x.c=c at *
 have ho':=ho
 rcases ho.2 with⟨h1,h2⟩|⟨g,c',cur,h1,_⟩
 ·obtain⟨rfl,_,rfl⟩:a=none∧n=0∧c=0:=by simpa using h1
  subst h2
  exact(heldN w _ _ 1).mono fun e w' ⟨q1,q2⟩=>⟨by rw[q1];simp,by rw[q2];exact Below.refl _ _⟩
 ·obtain⟨rfl,rfl⟩:a=some ⟨g,0,none⟩∧c=c':=by simpa using h1
  exact MarkFS14.heldS w g n c 1 hn (by omega) (by omega) (OwnF.lt ho').2 (OwnF.at ho')
structure TurnD(x:Dx)(w w':World):Prop where
 os:w'.os=w.os
 tape:w'.tape=w.tape
 output:w'.output=w.output
 size:w.heap.size≤w'.heap.size
 block:∀k,k<w.heap.size→some k≠(Value.slice x.a x.ps.length x.c).ownBlock→w'.heap[k]?=w.heap[k]?
theorem TurnD.below{x:Dx}{w w':World}{base:Nat}(h:TurnD x w w')(o:OwD w base x)(hb:base≤w.heap.size):Below base w w':=
 ⟨h.os,h.tape,h.output,h.size,fun j hj=>h.block j (by omega) (fun e=>by have:=(World.ownsRow.lt o j e.symm).1;omega)⟩
theorem markD(w:World)(base:Nat)(x:Dx)(hn:x.ps.length≤1048576)(hb:base≤w.heap.size)(ho:OwD w base x):
  Calls Tryz.prog 40 #[.agg #[.int .i64 x.room,.slice x.a x.ps.length x.c],.int .i64 1] w fun e w'=>e= .returned (.int .i64 (1+3*(x.ps.length:Int)))∧OmD w' base x∧TurnD x w w':=by
 have b1:=one_more w (.cells #[.int .i64 x.room,.slice x.a x.ps.length x.c] 38)
 have M:=zh (markV _ base x hn (Nat.le_trans hb b1.size) (ho.step b1))
 have B1:=zh b1
 clear ho b1
 go_enter Tryz.func40,Tryz.ntmps40
 go_wp2_with fail
 refine(zu M).mono ?_
 rintro e u ⟨rfl,o,gr⟩
 have O:=zh o
 have T:=zh (show TurnD x w u from⟨gr.os.trans (zu B1).os,gr.tape.trans (zu B1).tape,gr.output.trans (zu B1).output,Nat.le_trans (zu B1).size gr.size,fun k hk ne=>(gr.block k (Nat.lt_of_lt_of_le hk (zu B1).size) ne).trans ((zu B1).block k hk)⟩)
 clear o gr M
 go_wp2
 go_ret
 exact⟨rfl,zu O,zu T⟩
theorem heldD(w:World)(base:Nat)(x:Dx)(hn:x.ps.length≤1048576)(ho:OmD w base x):
  Calls Tryz.prog 42 #[.agg #[.int .i64 x.room,.slice x.a x.ps.length x.c],.int .i64 1] w fun e w'=>e= .returned (.int .i64 (1+3*(x.ps.length:Int)))∧Below w.heap.size w w':=by
 have b1:=one_more w (.cells #[.int .i64 x.room,.slice x.a x.ps.length x.c] 38)
 have M:=zh (heldV _ base x hn (ho.step b1))
 have B1:=zh b1
 have q:¬(1+3*(x.ps.length:Int)<0):=by omega
 clear ho b1
 go_enter Tryz.func42,Tryz.ntmps42
 go_wp2_with fail
 refine(zu M).mono ?_
 rintro e u ⟨rfl,bb⟩
 have B2:=zh ((zu B1).trans (bb.mono (zu B1).size))
 clear bb M
 go_wp2
 go_ret
 exact⟨rfl,zu B2⟩
end DkH14
namespace SDk14
open Fil14 OpensF14 DiskH14 DkH14
theorem sumZ_le(ps:List TF)(k:Nat):sumZ (ps.take k)≤sumZ ps:=by
 have:=sumZ_append (ps.take k) (ps.drop k)
 rw[List.take_append_drop] at this
 omega
theorem cells_of{w:World}{x:Dx}(h:RdD w x){k:Nat}(hk:k<x.ps.length):∃g,x.a=some ⟨g,0,none⟩∧g<w.heap.size∧HoldsF w g (k*3) (elF x.ps k):=by
 obtain⟨g,e⟩:=h.e (by omega)
 exact⟨g,e,(h.r g e).1,(h.r g e).2 k hk⟩
structure Wd(w wr:World)(x:Dx):Prop where
 c0:wr.cell? ⟨w.heap.size,0,none⟩=some (.int .i64 x.room)
 c1:wr.cell? ⟨w.heap.size,1,none⟩=some (.slice x.a x.ps.length x.c)
 lt:w.heap.size<wr.heap.size
 b:Below w.heap.size w wr
 r:RdD wr x
theorem Wd.made{w:World}{x:Dx}(hr:RdD w x)(t:TypeId):Wd w (w.alloc (.cells #[.int .i64 x.room,.slice x.a x.ps.length x.c] t)) x:=
 ⟨by simp[go_sem],by simp[go_sem],by simp,one_more _ _,hr.below (one_more _ _)⟩
theorem Wd.step{w wr wz:World}{x:Dx}(h:Wd w wr x)(k:Below wr.heap.size wr wz):Wd w wz x:=
 ⟨(k.cell (p:=⟨w.heap.size,0,none⟩) h.lt).trans h.c0,(k.cell (p:=⟨w.heap.size,1,none⟩) h.lt).trans h.c1,Nat.lt_of_lt_of_le h.lt k.size,h.b.trans (k.mono h.b.size),h.r.below k⟩
theorem Wd.drew{w wr:World}{x:Dx}(h:Wd w wr x):Wd w wr.drew x:=h.step (Below.refl _ _).drew
theorem sSize(w:World)(x:Dx)(hr:RdD w x)(hz:sumZ x.ps≤1048576):
  Calls Tryz.prog 66 #[.agg #[.int .i64 x.room,.slice x.a x.ps.length x.c]] w fun e w'=>e= .returned (.int .i64 (sumZ x.ps))∧Below w.heap.size w w':=by
 have W0:=zh (Wd.made hr 38)
 have h20:=hr.n
 clear hr
 go_enter Tryz.func66,Tryz.ntmps66
 go_wp2
 go_loopw [3,4] (fun n i wr=>∃(k:Nat) (y:Int),k≤x.ps.length∧i= .int .i64 k∧n= .int .i64 y∧0≤y∧y≤1048576∧Hid (y=sumZ (x.ps.take k))∧Hid (Wd w wr x)) (fun _ i _=>x.ps.length-(intOf i).toNat)
 case atStart=>exact⟨0,0,by omega,rfl,rfl,by omega,by omega,zh (by simp[sumZ]),W0⟩
 case round=>
  clear W0
  obtain⟨k,y,hk,rfl,rfl,y0,y1,HY,HW⟩:=hrel
  have c1:=(zu HW).c1
  have lt:=(zu HW).lt
  by_cases t:k<x.ps.length
  ·have kt:(k:Int)<x.ps.length:=by omega
   have NX:=sumZ_next t
   have LE:=sumZ_le x.ps (k+1)
   have YE:=zu HY
   obtain⟨g,ea,lg,d0,d1,d2⟩:=cells_of (zu HW).r t
   generalize (elF x.ps k).1=z0 at *
   generalize (elF x.ps k).2.1=z1 at *
   generalize (elF x.ps k).2.2=z2 at *
   have b1:(z1.size:Int)≤1048576:=by omega
   have b2:y+z1.size+z2.size≤1048576:=by omega
   have a1:wrap64 (y+z1.size)=y+z1.size:=by rw[wrap64];omega
   have a2:wrap64 (y+z1.size+z2.size)=y+z1.size+z2.size:=by rw[wrap64];omega
   have NY:=zh (show y+z1.size+z2.size=sumZ (x.ps.take (k+1)) by omega)
   clear NX LE YE
   rw[ea] at c1
   go_wp2_with fail
   go_region
   go_wp2
   go_roundw
   case rel=>exact⟨k+1,y+z1.size+z2.size,by omega,by go_num,rfl,by omega,by omega,NY,(zu HW).drew⟩
   case measure=>simp[intOf];omega
  ·have e:k=x.ps.length:=by omega
   have E:=zh (show y=sumZ x.ps by have:=zu HY;rw[e,List.take_length] at this;exact this)
   have kt:¬(k:Int)<x.ps.length:=by omega
   clear HY
   subst e
   go_wp2
   go_ret
   exact⟨congrArg (fun z=>Ending.returned (.int .i64 z)) (zu E),(zu HW).b⟩
end SDk14
namespace SOk14
open Fil14 OpensF14 DiskH14 DkH14 SDk14
theorem sIn(w:World)(x lo hi:Int):Calls Tryz.prog 29 #[.int .i64 x,.int .i64 lo,.int .i64 hi] w fun e w'=>e= .returned (.bool (decide (lo≤x∧x≤hi)))∧w'=w:=by
 by_cases h0:lo≤x
 ·by_cases h1:x≤hi
  ·rw[decide_eq_true ⟨h0,h1⟩]
   go_enter Tryz.func29,Tryz.ntmps29
   go_wp2
   go_ret
   exact⟨rfl,rfl⟩
  ·rw[decide_eq_false (fun q=>h1 q.2)]
   go_enter Tryz.func29,Tryz.ntmps29
   go_wp2
   go_ret
   exact⟨rfl,rfl⟩
 ·rw[decide_eq_false (fun q=>h0 q.1)]
  go_enter Tryz.func29,Tryz.ntmps29
  go_wp2
  go_ret
  exact⟨rfl,rfl⟩
theorem sInB(w:World)(x lo hi:Int)(b:Bool)(h:decide (lo≤x∧x≤hi)=b):Calls Tryz.prog 29 #[.int .i64 x,.int .i64 lo,.int .i64 hi] w fun e w'=>e= .returned (.bool b)∧w'=w:=by
 rw[←h]
 exact sIn w x lo hi
def okN(n:Int):Bool:=decide (0≤n∧n≤21)
theorem sName(w:World)(n:Int):Calls Tryz.prog 67 #[.int .i64 n] w fun e w'=>e= .returned (.bool (okN n))∧w'=w:=by
 have S:=zh (fun u=>sInB u n 0 21 (okN n) rfl)
 generalize okN n=b at *
 go_enter Tryz.func67,Tryz.ntmps67
 go_wp2_with fail
 refine(zu S _).mono ?_
 rintro e u ⟨rfl,rfl⟩
 go_wp2
 go_ret
 exact⟨rfl,rfl⟩
def okAt(ps:List TF)(i:Nat):Prop:=okN (elF ps i).1=true∧(0<i→(elF ps (i-1)).1<(elF ps i).1)
instance (ps:List TF) (i:Nat):Decidable (okAt ps i):=by unfold okAt;infer_instance
def OkD(room:Int)(ps:List TF):Prop:=(0≤room∧room≤60000)∧ps.length≤22∧(sumZ ps:Int)≤room∧∀i,i<ps.length→okAt ps i
instance (room:Int) (ps:List TF):Decidable (OkD room ps):=by unfold OkD;infer_instance
theorem below_of_drew{w w':World}(h:Below w.drew.heap.size w.drew w'):Below w.heap.size w w':=((Below.refl w.heap.size w).drew).trans h
abbrev oA0:Oper:={dst:=some 4,op:=Go.Op.fieldAddr 38 (Go.Operand.tmp 1) 0,type:=0,pos:= "l14_disk.go:16",after:= #[],guard:=none}
abbrev oA1:Oper:={dst:=some 5,op:=Go.Op.load 3 (Go.Operand.tmp 4),type:=3,pos:= "l14_disk.go:16",after:= #[{on:=0,ground:=Go.Ground.data}],guard:=none}
abbrev oA2:Oper:={dst:=some 6,op:=Go.Op.call {callee:=Go.Callee.value (Go.Operand.func 29),args:= #[Go.Operand.tmp 5,Go.Operand.const (Go.Value.int Go.IntKind.i64 0),Go.Operand.const (Go.Value.int Go.IntKind.i64 60000)],argTypes:= #[3,3,3]},type:=4,pos:= "l14_disk.go:16",after:= #[{on:=1,ground:=Go.Ground.data}],guard:=none}
abbrev oA3:Oper:={dst:=some 7,op:=Go.Op.unOp Go.UnOp.not 4 (Go.Operand.tmp 6),type:=4,pos:= "l14_disk.go:16",after:= #[{on:=2,ground:=Go.Ground.data}],guard:=none}
abbrev oA4:Oper:={dst:=some 8,op:=Go.Op.move (Go.Operand.tmp 7),type:=4,pos:= "l14_disk.go:16",after:= #[{on:=3,ground:=Go.Ground.data},{on:=2,ground:=Go.Ground.chain}],guard:=none}
abbrev oA5:Oper:={dst:=some 9,op:=Go.Op.fieldAddr 38 (Go.Operand.tmp 1) 1,type:=0,pos:= "l14_disk.go:16",after:= #[{on:=4,ground:=Go.Ground.guard}],guard:=some (4,false)}
abbrev oA6:Oper:={dst:=some 10,op:=Go.Op.load 36 (Go.Operand.tmp 9),type:=36,pos:= "l14_disk.go:16",after:= #[{on:=5,ground:=Go.Ground.data},{on:=4,ground:=Go.Ground.guard}],guard:=some (4,false)}
abbrev oA7:Oper:={dst:=some 11,op:=Go.Op.call {callee:=Go.Callee.builtin Go.Builtin.len,args:= #[Go.Operand.tmp 10],argTypes:= #[36]},type:=3,pos:= "l14_disk.go:16",after:= #[{on:=6,ground:=Go.Ground.data},{on:=4,ground:=Go.Ground.guard}],guard:=some (4,false)}
abbrev oA8:Oper:={dst:=some 12,op:=Go.Op.binOp Go.BinOp.gtr 3 (Go.Operand.tmp 11) (Go.Operand.const (Go.Value.int Go.IntKind.i64 22)) 3,type:=4,pos:= "l14_disk.go:16",after:= #[{on:=7,ground:=Go.Ground.data},{on:=4,ground:=Go.Ground.guard}],guard:=some (4,false)}
abbrev oA9:Oper:={dst:=some 13,op:=Go.Op.pick (Go.Operand.tmp 8) (Go.Operand.const (Go.Value.bool true)) (Go.Operand.tmp 12),type:=4,pos:= "l14_disk.go:16",after:= #[{on:=4,ground:=Go.Ground.data},{on:=8,ground:=Go.Ground.data}],guard:=none}
abbrev oA10:Oper:={dst:=some 14,op:=Go.Op.move (Go.Operand.tmp 13),type:=4,pos:= "l14_disk.go:16",after:= #[{on:=9,ground:=Go.Ground.data},{on:=4,ground:=Go.Ground.chain}],guard:=none}
abbrev oA11:Oper:={dst:=some 15,op:=Go.Op.load 38 (Go.Operand.tmp 1),type:=38,pos:= "l14_disk.go:16",after:= #[{on:=10,ground:=Go.Ground.guard}],guard:=some (10,false)}
abbrev oA12:Oper:={dst:=some 16,op:=Go.Op.call {callee:=Go.Callee.value (Go.Operand.func 66),args:= #[Go.Operand.tmp 15],argTypes:= #[38]},type:=3,pos:= "l14_disk.go:16",after:= #[{on:=11,ground:=Go.Ground.data},{on:=10,ground:=Go.Ground.chain},{on:=10,ground:=Go.Ground.guard}],guard:=some (10,false)}
abbrev oA13:Oper:={dst:=some 17,op:=Go.Op.fieldAddr 38 (Go.Operand.tmp 1) 0,type:=0,pos:= "l14_disk.go:16",after:= #[{on:=10,ground:=Go.Ground.guard}],guard:=some (10,false)}
abbrev oA14:Oper:={dst:=some 18,op:=Go.Op.load 3 (Go.Operand.tmp 17),type:=3,pos:= "l14_disk.go:16",after:= #[{on:=13,ground:=Go.Ground.data},{on:=10,ground:=Go.Ground.guard}],guard:=some (10,false)}
abbrev oA15:Oper:={dst:=some 19,op:=Go.Op.binOp Go.BinOp.gtr 3 (Go.Operand.tmp 16) (Go.Operand.tmp 18) 3,type:=4,pos:= "l14_disk.go:16",after:= #[{on:=12,ground:=Go.Ground.data},{on:=14,ground:=Go.Ground.data},{on:=10,ground:=Go.Ground.guard}],guard:=some (10,false)}
abbrev oA16:Oper:={dst:=some 20,op:=Go.Op.pick (Go.Operand.tmp 14) (Go.Operand.const (Go.Value.bool true)) (Go.Operand.tmp 19),type:=4,pos:= "l14_disk.go:16",after:= #[{on:=10,ground:=Go.Ground.data},{on:=15,ground:=Go.Ground.data}],guard:=none}
abbrev oB0:Oper:={dst:=some 28,op:=Go.Op.fieldAddr 38 (Go.Operand.tmp 1) 1,type:=0,pos:= "l14_disk.go:20",after:= #[],guard:=none}
abbrev oB1:Oper:={dst:=some 29,op:=Go.Op.load 36 (Go.Operand.tmp 28),type:=36,pos:= "l14_disk.go:20",after:= #[{on:=0,ground:=Go.Ground.data}],guard:=none}
abbrev oB2:Oper:={dst:=some 30,op:=Go.Op.move (Go.Operand.tmp 3),type:=3,pos:= "l14_disk.go:20",after:= #[],guard:=none}
abbrev oB3:Oper:={dst:=some 31,op:=Go.Op.indexAddr 36 (Go.Operand.tmp 29) (Go.Operand.tmp 30),type:=0,pos:= "l14_disk.go:20",after:= #[{on:=1,ground:=Go.Ground.data},{on:=2,ground:=Go.Ground.data}],guard:=none}
abbrev oB4:Oper:={dst:=some 32,op:=Go.Op.fieldAddr 64 (Go.Operand.tmp 31) 0,type:=0,pos:= "l14_disk.go:20",after:= #[{on:=3,ground:=Go.Ground.data}],guard:=none}
abbrev oB5:Oper:={dst:=some 33,op:=Go.Op.load 3 (Go.Operand.tmp 32),type:=3,pos:= "l14_disk.go:20",after:= #[{on:=4,ground:=Go.Ground.data}],guard:=none}
abbrev oB6:Oper:={dst:=some 34,op:=Go.Op.call {callee:=Go.Callee.value (Go.Operand.func 67),args:= #[Go.Operand.tmp 33],argTypes:= #[3]},type:=4,pos:= "l14_disk.go:20",after:= #[{on:=5,ground:=Go.Ground.data}],guard:=none}
abbrev oB7:Oper:={dst:=some 35,op:=Go.Op.unOp Go.UnOp.not 4 (Go.Operand.tmp 34),type:=4,pos:= "l14_disk.go:20",after:= #[{on:=6,ground:=Go.Ground.data}],guard:=none}
abbrev oB8:Oper:={dst:=some 36,op:=Go.Op.move (Go.Operand.tmp 35),type:=4,pos:= "l14_disk.go:20",after:= #[{on:=7,ground:=Go.Ground.data},{on:=6,ground:=Go.Ground.chain}],guard:=none}
abbrev oB9:Oper:={dst:=some 37,op:=Go.Op.move (Go.Operand.tmp 3),type:=3,pos:= "l14_disk.go:20",after:= #[{on:=8,ground:=Go.Ground.guard}],guard:=some (8,false)}
abbrev oB10:Oper:={dst:=some 38,op:=Go.Op.binOp Go.BinOp.gtr 3 (Go.Operand.tmp 37) (Go.Operand.const (Go.Value.int Go.IntKind.i64 0)) 3,type:=4,pos:= "l14_disk.go:20",after:= #[{on:=9,ground:=Go.Ground.data},{on:=8,ground:=Go.Ground.guard}],guard:=some (8,false)}
abbrev oB11:Oper:={dst:=some 39,op:=Go.Op.move (Go.Operand.tmp 38),type:=4,pos:= "l14_disk.go:20",after:= #[{on:=10,ground:=Go.Ground.data},{on:=8,ground:=Go.Ground.chain},{on:=8,ground:=Go.Ground.guard}],guard:=some (8,false)}
abbrev oB12:Oper:={dst:=some 40,op:=Go.Op.fieldAddr 38 (Go.Operand.tmp 1) 1,type:=0,pos:= "l14_disk.go:20",after:= #[{on:=11,ground:=Go.Ground.guard}],guard:=some (11,true)}
abbrev oB13:Oper:={dst:=some 41,op:=Go.Op.load 36 (Go.Operand.tmp 40),type:=36,pos:= "l14_disk.go:20",after:= #[{on:=12,ground:=Go.Ground.data},{on:=11,ground:=Go.Ground.guard}],guard:=some (11,true)}
abbrev oB14:Oper:={dst:=some 42,op:=Go.Op.move (Go.Operand.tmp 3),type:=3,pos:= "l14_disk.go:20",after:= #[{on:=11,ground:=Go.Ground.guard}],guard:=some (11,true)}
abbrev oB15:Oper:={dst:=some 43,op:=Go.Op.binOp Go.BinOp.sub 3 (Go.Operand.tmp 42) (Go.Operand.const (Go.Value.int Go.IntKind.i64 1)) 3,type:=3,pos:= "l14_disk.go:20",after:= #[{on:=14,ground:=Go.Ground.data},{on:=11,ground:=Go.Ground.guard}],guard:=some (11,true)}
abbrev oB16:Oper:={dst:=some 44,op:=Go.Op.indexAddr 36 (Go.Operand.tmp 41) (Go.Operand.tmp 43),type:=0,pos:= "l14_disk.go:20",after:= #[{on:=13,ground:=Go.Ground.data},{on:=15,ground:=Go.Ground.data},{on:=11,ground:=Go.Ground.guard}],guard:=some (11,true)}
abbrev oB17:Oper:={dst:=some 45,op:=Go.Op.fieldAddr 64 (Go.Operand.tmp 44) 0,type:=0,pos:= "l14_disk.go:20",after:= #[{on:=16,ground:=Go.Ground.data},{on:=11,ground:=Go.Ground.guard}],guard:=some (11,true)}
abbrev oB18:Oper:={dst:=some 46,op:=Go.Op.load 3 (Go.Operand.tmp 45),type:=3,pos:= "l14_disk.go:20",after:= #[{on:=17,ground:=Go.Ground.data},{on:=11,ground:=Go.Ground.guard}],guard:=some (11,true)}
abbrev oB19:Oper:={dst:=some 47,op:=Go.Op.fieldAddr 38 (Go.Operand.tmp 1) 1,type:=0,pos:= "l14_disk.go:20",after:= #[{on:=11,ground:=Go.Ground.guard}],guard:=some (11,true)}
abbrev oB20:Oper:={dst:=some 48,op:=Go.Op.load 36 (Go.Operand.tmp 47),type:=36,pos:= "l14_disk.go:20",after:= #[{on:=19,ground:=Go.Ground.data},{on:=11,ground:=Go.Ground.guard}],guard:=some (11,true)}
abbrev oB21:Oper:={dst:=some 49,op:=Go.Op.move (Go.Operand.tmp 3),type:=3,pos:= "l14_disk.go:20",after:= #[{on:=11,ground:=Go.Ground.guard}],guard:=some (11,true)}
abbrev oB22:Oper:={dst:=some 50,op:=Go.Op.indexAddr 36 (Go.Operand.tmp 48) (Go.Operand.tmp 49),type:=0,pos:= "l14_disk.go:20",after:= #[{on:=20,ground:=Go.Ground.data},{on:=21,ground:=Go.Ground.data},{on:=11,ground:=Go.Ground.guard}],guard:=some (11,true)}
abbrev oB23:Oper:={dst:=some 51,op:=Go.Op.fieldAddr 64 (Go.Operand.tmp 50) 0,type:=0,pos:= "l14_disk.go:20",after:= #[{on:=22,ground:=Go.Ground.data},{on:=11,ground:=Go.Ground.guard}],guard:=some (11,true)}
abbrev oB24:Oper:={dst:=some 52,op:=Go.Op.load 3 (Go.Operand.tmp 51),type:=3,pos:= "l14_disk.go:20",after:= #[{on:=23,ground:=Go.Ground.data},{on:=11,ground:=Go.Ground.guard}],guard:=some (11,true)}
abbrev oB25:Oper:={dst:=some 53,op:=Go.Op.binOp Go.BinOp.geq 3 (Go.Operand.tmp 46) (Go.Operand.tmp 52) 3,type:=4,pos:= "l14_disk.go:20",after:= #[{on:=18,ground:=Go.Ground.data},{on:=24,ground:=Go.Ground.data},{on:=11,ground:=Go.Ground.guard}],guard:=some (11,true)}
abbrev oB26:Oper:={dst:=some 54,op:=Go.Op.pick (Go.Operand.tmp 39) (Go.Operand.tmp 53) (Go.Operand.const (Go.Value.bool false)),type:=4,pos:= "l14_disk.go:20",after:= #[{on:=11,ground:=Go.Ground.data},{on:=25,ground:=Go.Ground.data},{on:=8,ground:=Go.Ground.guard}],guard:=some (8,false)}
abbrev oB27:Oper:={dst:=some 55,op:=Go.Op.pick (Go.Operand.tmp 36) (Go.Operand.const (Go.Value.bool true)) (Go.Operand.tmp 54),type:=4,pos:= "l14_disk.go:20",after:= #[{on:=8,ground:=Go.Ground.data},{on:=26,ground:=Go.Ground.data}],guard:=none}
theorem sDiskOk(w:World)(x:Dx)(hr:RdD w x)(hz:sumZ x.ps≤1048576):
  Calls Tryz.prog 25 #[.agg #[.int .i64 x.room,.slice x.a x.ps.length x.c]] w fun e w'=>e= .returned (.bool (decide (OkD x.room x.ps)))∧Below w.heap.size w w':=by
 have W0:=zh (Wd.made hr 38)
 have h20:=hr.n
 clear hr
 by_cases q1:0≤x.room∧x.room≤60000
 case neg=>
  rw[decide_eq_false (fun h:OkD x.room x.ps=>q1 h.1)]
  have D:=zh (fun u=>sInB u x.room 0 60000 false (decide_eq_false q1))
  clear q1
  go_enter Tryz.func25,Tryz.ntmps25
  go_wp2_with fail
  have c0:=(zu W0).c0
  have c1:=(zu W0).c1
  have lt:=(zu W0).lt
  have K4:=And.intro c0 c1
  generalize w.alloc (.cells #[.int .i64 x.room,.slice x.a x.ps.length x.c] 38)=W at *
  refine wp_region_held_drew (S:=(fun w'=>w'.cell? ⟨w.heap.size,0,none⟩=some (.int .i64 x.room)∧w'.cell? ⟨w.heap.size,1,none⟩=some (.slice x.a x.ps.length x.c))) (by kernel_rfl) K4 (fun hHeld=>?_)
  refine zT (oi:=oA0) 0 (.pointer (some ⟨w.heap.size,0,none⟩)) rfl hHeld ?_ (by intro w hSw;(try dsimp only at hSw);unfold oA0;go_simp)
  try simp only[oA0,Act.put,zA,zB,zC]
  refine zT (oi:=oA1) 1 (.int .i64 x.room) rfl hHeld ?_ (by intro w hSw;(try dsimp only at hSw);unfold oA1;go_simp)
  try simp only[oA1,Act.put,zA,zB,zC]
  refine zR (oi:=oA2) 2 rfl (fun K hK=>?_)
  unfold oA2
  go_simp
  go_wp2_with fail
  refine(zu D _).mono ?_
  rintro e w3 ⟨rfl,rfl⟩
  go_wp2_with fail
  refine hK.out _ _ K4 (fun hHeld=>?_)
  clear hK K
  try simp only[oA2,Act.put,zA,zB,zC]
  refine zT (oi:=oA3) 3 (.bool true) rfl hHeld ?_ (by intro w hSw;(try dsimp only at hSw);unfold oA3;go_simp)
  try simp only[oA3,Act.put,zA,zB,zC]
  refine zT (oi:=oA4) 4 (.bool true) rfl hHeld ?_ (by intro w hSw;(try dsimp only at hSw);unfold oA4;go_simp)
  try simp only[oA4,Act.put,zA,zB,zC]
  refine zS (oi:=oA5) 5 rfl hHeld ?_
  try simp only[oA5,Act.put,zA,zB,zC]
  refine zS (oi:=oA6) 6 rfl hHeld ?_
  try simp only[oA6,Act.put,zA,zB,zC]
  refine zS (oi:=oA7) 7 rfl hHeld ?_
  try simp only[oA7,Act.put,zA,zB,zC]
  refine zS (oi:=oA8) 8 rfl hHeld ?_
  try simp only[oA8,Act.put,zA,zB,zC]
  refine zT (oi:=oA9) 9 (.bool true) rfl hHeld ?_ (by intro w hSw;(try dsimp only at hSw);unfold oA9;go_simp)
  try simp only[oA9,Act.put,zA,zB,zC]
  refine zT (oi:=oA10) 10 (.bool true) rfl hHeld ?_ (by intro w hSw;(try dsimp only at hSw);unfold oA10;go_simp)
  try simp only[oA10,Act.put,zA,zB,zC]
  refine zS (oi:=oA11) 11 rfl hHeld ?_
  try simp only[oA11,Act.put,zA,zB,zC]
  refine zS (oi:=oA12) 12 rfl hHeld ?_
  try simp only[oA12,Act.put,zA,zB,zC]
  refine zS (oi:=oA13) 13 rfl hHeld ?_
  try simp only[oA13,Act.put,zA,zB,zC]
  refine zS (oi:=oA14) 14 rfl hHeld ?_
  try simp only[oA14,Act.put,zA,zB,zC]
  refine zS (oi:=oA15) 15 rfl hHeld ?_
  try simp only[oA15,Act.put,zA,zB,zC]
  refine zT (oi:=oA16) 16 (.bool true) rfl hHeld ?_ (by intro w hSw;(try dsimp only at hSw);unfold oA16;go_simp)
  try simp only[oA16,Act.put,zA,zB,zC]
  refine wpAnyH_done (by kernel_rfl) ?_ _
  go_wp2
  go_ret
  exact⟨rfl,(zu W0).b.drew⟩
 have D:=zh (fun u=>sInB u x.room 0 60000 true (decide_eq_true q1))
 by_cases q2:x.ps.length≤22
 case neg=>
  rw[decide_eq_false (fun h:OkD x.room x.ps=>q2 h.2.1)]
  have d2:(x.ps.length:Int)>22:=by omega
  clear q1
  go_enter Tryz.func25,Tryz.ntmps25
  go_wp2_with fail
  have c0:=(zu W0).c0
  have c1:=(zu W0).c1
  have lt:=(zu W0).lt
  have K4:=And.intro c0 c1
  generalize w.alloc (.cells #[.int .i64 x.room,.slice x.a x.ps.length x.c] 38)=W at *
  refine wp_region_held_drew (S:=(fun w'=>w'.cell? ⟨w.heap.size,0,none⟩=some (.int .i64 x.room)∧w'.cell? ⟨w.heap.size,1,none⟩=some (.slice x.a x.ps.length x.c))) (by kernel_rfl) K4 (fun hHeld=>?_)
  refine zT (oi:=oA0) 0 (.pointer (some ⟨w.heap.size,0,none⟩)) rfl hHeld ?_ (by intro w hSw;(try dsimp only at hSw);unfold oA0;go_simp)
  try simp only[oA0,Act.put,zA,zB,zC]
  refine zT (oi:=oA1) 1 (.int .i64 x.room) rfl hHeld ?_ (by intro w hSw;(try dsimp only at hSw);unfold oA1;go_simp)
  try simp only[oA1,Act.put,zA,zB,zC]
  refine zR (oi:=oA2) 2 rfl (fun K hK=>?_)
  unfold oA2
  go_simp
  go_wp2_with fail
  refine(zu D _).mono ?_
  rintro e w3 ⟨rfl,rfl⟩
  go_wp2_with fail
  refine hK.out _ _ K4 (fun hHeld=>?_)
  clear hK K
  try simp only[oA2,Act.put,zA,zB,zC]
  refine zT (oi:=oA3) 3 (.bool false) rfl hHeld ?_ (by intro w hSw;(try dsimp only at hSw);unfold oA3;go_simp)
  try simp only[oA3,Act.put,zA,zB,zC]
  refine zT (oi:=oA4) 4 (.bool false) rfl hHeld ?_ (by intro w hSw;(try dsimp only at hSw);unfold oA4;go_simp)
  try simp only[oA4,Act.put,zA,zB,zC]
  refine zT (oi:=oA5) 5 (.pointer (some ⟨w.heap.size,1,none⟩)) rfl hHeld ?_ (by intro w hSw;(try dsimp only at hSw);unfold oA5;go_simp)
  try simp only[oA5,Act.put,zA,zB,zC]
  refine zT (oi:=oA6) 6 (.slice x.a x.ps.length x.c) rfl hHeld ?_ (by intro w hSw;(try dsimp only at hSw);unfold oA6;go_simp)
  try simp only[oA6,Act.put,zA,zB,zC]
  refine zR (oi:=oA7) 7 rfl (fun K hK=>?_)
  unfold oA7
  go_simp
  refine hK.out _ _ K4 (fun hHeld=>?_)
  clear hK K
  try simp only[oA7,Act.put,zA,zB,zC]
  refine zT (oi:=oA8) 8 (.bool true) rfl hHeld ?_ (by intro w hSw;(try dsimp only at hSw);unfold oA8;go_simp)
  try simp only[oA8,Act.put,zA,zB,zC]
  refine zT (oi:=oA9) 9 (.bool true) rfl hHeld ?_ (by intro w hSw;(try dsimp only at hSw);unfold oA9;go_simp)
  try simp only[oA9,Act.put,zA,zB,zC]
  refine zT (oi:=oA10) 10 (.bool true) rfl hHeld ?_ (by intro w hSw;(try dsimp only at hSw);unfold oA10;go_simp)
  try simp only[oA10,Act.put,zA,zB,zC]
  refine zS (oi:=oA11) 11 rfl hHeld ?_
  try simp only[oA11,Act.put,zA,zB,zC]
  refine zS (oi:=oA12) 12 rfl hHeld ?_
  try simp only[oA12,Act.put,zA,zB,zC]
  refine zS (oi:=oA13) 13 rfl hHeld ?_
  try simp only[oA13,Act.put,zA,zB,zC]
  refine zS (oi:=oA14) 14 rfl hHeld ?_
  try simp only[oA14,Act.put,zA,zB,zC]
  refine zS (oi:=oA15) 15 rfl hHeld ?_
  try simp only[oA15,Act.put,zA,zB,zC]
  refine zT (oi:=oA16) 16 (.bool true) rfl hHeld ?_ (by intro w hSw;(try dsimp only at hSw);unfold oA16;go_simp)
  try simp only[oA16,Act.put,zA,zB,zC]
  refine wpAnyH_done (by kernel_rfl) ?_ _
  go_wp2
  go_ret
  exact⟨rfl,(zu W0).b.drew⟩
 have d2:¬(x.ps.length:Int)>22:=by omega
 have Q:=zh (And.intro q1 q2)
 by_cases q3:(sumZ x.ps:Int)≤x.room
 case neg=>
  rw[decide_eq_false (fun h:OkD x.room x.ps=>q3 h.2.2.1)]
  have d3:(sumZ x.ps:Int)>x.room:=by omega
  clear q1
  go_enter Tryz.func25,Tryz.ntmps25
  go_wp2_with fail
  have c0:=(zu W0).c0
  have c1:=(zu W0).c1
  have lt:=(zu W0).lt
  have K4:=And.intro c0 c1
  generalize w.alloc (.cells #[.int .i64 x.room,.slice x.a x.ps.length x.c] 38)=W at *
  refine wp_region_held_drew (S:=(fun w'=>w'.cell? ⟨w.heap.size,0,none⟩=some (.int .i64 x.room)∧w'.cell? ⟨w.heap.size,1,none⟩=some (.slice x.a x.ps.length x.c))) (by kernel_rfl) K4 (fun hHeld=>?_)
  refine zT (oi:=oA0) 0 (.pointer (some ⟨w.heap.size,0,none⟩)) rfl hHeld ?_ (by intro w hSw;(try dsimp only at hSw);unfold oA0;go_simp)
  try simp only[oA0,Act.put,zA,zB,zC]
  refine zT (oi:=oA1) 1 (.int .i64 x.room) rfl hHeld ?_ (by intro w hSw;(try dsimp only at hSw);unfold oA1;go_simp)
  try simp only[oA1,Act.put,zA,zB,zC]
  refine zR (oi:=oA2) 2 rfl (fun K hK=>?_)
  unfold oA2
  go_simp
  go_wp2_with fail
  refine(zu D _).mono ?_
  rintro e w3 ⟨rfl,rfl⟩
  go_wp2_with fail
  refine hK.out _ _ K4 (fun hHeld=>?_)
  clear hK K
  try simp only[oA2,Act.put,zA,zB,zC]
  refine zT (oi:=oA3) 3 (.bool false) rfl hHeld ?_ (by intro w hSw;(try dsimp only at hSw);unfold oA3;go_simp)
  try simp only[oA3,Act.put,zA,zB,zC]
  refine zT (oi:=oA4) 4 (.bool false) rfl hHeld ?_ (by intro w hSw;(try dsimp only at hSw);unfold oA4;go_simp)
  try simp only[oA4,Act.put,zA,zB,zC]
  refine zT (oi:=oA5) 5 (.pointer (some ⟨w.heap.size,1,none⟩)) rfl hHeld ?_ (by intro w hSw;(try dsimp only at hSw);unfold oA5;go_simp)
  try simp only[oA5,Act.put,zA,zB,zC]
  refine zT (oi:=oA6) 6 (.slice x.a x.ps.length x.c) rfl hHeld ?_ (by intro w hSw;(try dsimp only at hSw);unfold oA6;go_simp)
  try simp only[oA6,Act.put,zA,zB,zC]
  refine zR (oi:=oA7) 7 rfl (fun K hK=>?_)
  unfold oA7
  go_simp
  refine hK.out _ _ K4 (fun hHeld=>?_)
  clear hK K
  try simp only[oA7,Act.put,zA,zB,zC]
  refine zT (oi:=oA8) 8 (.bool false) rfl hHeld ?_ (by intro w hSw;(try dsimp only at hSw);unfold oA8;go_simp)
  try simp only[oA8,Act.put,zA,zB,zC]
  refine zT (oi:=oA9) 9 (.bool false) rfl hHeld ?_ (by intro w hSw;(try dsimp only at hSw);unfold oA9;go_simp)
  try simp only[oA9,Act.put,zA,zB,zC]
  refine zT (oi:=oA10) 10 (.bool false) rfl hHeld ?_ (by intro w hSw;(try dsimp only at hSw);unfold oA10;go_simp)
  try simp only[oA10,Act.put,zA,zB,zC]
  refine zT (oi:=oA11) 11 (.agg #[.int .i64 x.room,.slice x.a x.ps.length x.c]) rfl hHeld ?_ (by intro w hSw;(try dsimp only at hSw);unfold oA11;go_simp)
  try simp only[oA11,Act.put,zA,zB,zC]
  refine zT (oi:=oA13) 13 (.pointer (some ⟨w.heap.size,0,none⟩)) rfl hHeld ?_ (by intro w hSw;(try dsimp only at hSw);unfold oA13;go_simp)
  try simp only[oA13,Act.put,zA,zB,zC]
  refine zT (oi:=oA14) 14 (.int .i64 x.room) rfl hHeld ?_ (by intro w hSw;(try dsimp only at hSw);unfold oA14;go_simp)
  try simp only[oA14,Act.put,zA,zB,zC]
  refine zR (oi:=oA12) 12 rfl (fun K hK=>?_)
  unfold oA12
  go_simp
  go_wp2_with fail
  refine(sSize _ x (zu W0).drew.r hz).mono ?_
  rintro e w4 ⟨rfl,bb⟩
  have bW:=zh (below_of_drew bb)
  have W4:=zh ((zu W0).step (zu bW))
  have K5:=And.intro (zu W4).c0 (zu W4).c1
  clear bb
  go_wp2_with fail
  refine hK.out _ _ K5 (fun hHeld=>?_)
  clear hK K
  try simp only[oA12,Act.put,zA,zB,zC]
  refine zT (oi:=oA15) 15 (.bool true) rfl hHeld ?_ (by intro w hSw;(try dsimp only at hSw);unfold oA15;go_simp)
  try simp only[oA15,Act.put,zA,zB,zC]
  refine zT (oi:=oA16) 16 (.bool true) rfl hHeld ?_ (by intro w hSw;(try dsimp only at hSw);unfold oA16;go_simp)
  try simp only[oA16,Act.put,zA,zB,zC]
  refine wpAnyH_done (by kernel_rfl) ?_ _
  go_wp2
  go_ret
  exact⟨rfl,(zu W4).b⟩
 have d3:¬(sumZ x.ps:Int)>x.room:=by omega
 go_enter Tryz.func25,Tryz.ntmps25
 go_wp2_with fail
 have c0:=(zu W0).c0
 have c1:=(zu W0).c1
 have lt:=(zu W0).lt
 have K4:=And.intro c0 c1
 generalize w.alloc (.cells #[.int .i64 x.room,.slice x.a x.ps.length x.c] 38)=W at *
 refine wp_region_held_drew (S:=(fun w'=>w'.cell? ⟨w.heap.size,0,none⟩=some (.int .i64 x.room)∧w'.cell? ⟨w.heap.size,1,none⟩=some (.slice x.a x.ps.length x.c))) (by kernel_rfl) K4 (fun hHeld=>?_)
 refine zT (oi:=oA0) 0 (.pointer (some ⟨w.heap.size,0,none⟩)) rfl hHeld ?_ (by intro w hSw;(try dsimp only at hSw);unfold oA0;go_simp)
 try simp only[oA0,Act.put,zA,zB,zC]
 refine zT (oi:=oA1) 1 (.int .i64 x.room) rfl hHeld ?_ (by intro w hSw;(try dsimp only at hSw);unfold oA1;go_simp)
 try simp only[oA1,Act.put,zA,zB,zC]
 refine zR (oi:=oA2) 2 rfl (fun K hK=>?_)
 unfold oA2
 go_simp
 go_wp2_with fail
 refine(zu D _).mono ?_
 rintro e w3 ⟨rfl,rfl⟩
 go_wp2_with fail
 refine hK.out _ _ K4 (fun hHeld=>?_)
 clear hK K
 try simp only[oA2,Act.put,zA,zB,zC]
 refine zT (oi:=oA3) 3 (.bool false) rfl hHeld ?_ (by intro w hSw;(try dsimp only at hSw);unfold oA3;go_simp)
 try simp only[oA3,Act.put,zA,zB,zC]
 refine zT (oi:=oA4) 4 (.bool false) rfl hHeld ?_ (by intro w hSw;(try dsimp only at hSw);unfold oA4;go_simp)
 try simp only[oA4,Act.put,zA,zB,zC]
 refine zT (oi:=oA5) 5 (.pointer (some ⟨w.heap.size,1,none⟩)) rfl hHeld ?_ (by intro w hSw;(try dsimp only at hSw);unfold oA5;go_simp)
 try simp only[oA5,Act.put,zA,zB,zC]
 refine zT (oi:=oA6) 6 (.slice x.a x.ps.length x.c) rfl hHeld ?_ (by intro w hSw;(try dsimp only at hSw);unfold oA6;go_simp)
 try simp only[oA6,Act.put,zA,zB,zC]
 refine zR (oi:=oA7) 7 rfl (fun K hK=>?_)
 unfold oA7
 go_simp
 refine hK.out _ _ K4 (fun hHeld=>?_)
 clear hK K
 try simp only[oA7,Act.put,zA,zB,zC]
 refine zT (oi:=oA8) 8 (.bool false) rfl hHeld ?_ (by intro w hSw;(try dsimp only at hSw);unfold oA8;go_simp)
 try simp only[oA8,Act.put,zA,zB,zC]
 refine zT (oi:=oA9) 9 (.bool false) rfl hHeld ?_ (by intro w hSw;(try dsimp only at hSw);unfold oA9;go_simp)
 try simp only[oA9,Act.put,zA,zB,zC]
 refine zT (oi:=oA10) 10 (.bool false) rfl hHeld ?_ (by intro w hSw;(try dsimp only at hSw);unfold oA10;go_simp)
 try simp only[oA10,Act.put,zA,zB,zC]
 refine zT (oi:=oA11) 11 (.agg #[.int .i64 x.room,.slice x.a x.ps.length x.c]) rfl hHeld ?_ (by intro w hSw;(try dsimp only at hSw);unfold oA11;go_simp)
 try simp only[oA11,Act.put,zA,zB,zC]
 refine zT (oi:=oA13) 13 (.pointer (some ⟨w.heap.size,0,none⟩)) rfl hHeld ?_ (by intro w hSw;(try dsimp only at hSw);unfold oA13;go_simp)
 try simp only[oA13,Act.put,zA,zB,zC]
 refine zT (oi:=oA14) 14 (.int .i64 x.room) rfl hHeld ?_ (by intro w hSw;(try dsimp only at hSw);unfold oA14;go_simp)
 try simp only[oA14,Act.put,zA,zB,zC]
 refine zR (oi:=oA12) 12 rfl (fun K hK=>?_)
 unfold oA12
 go_simp
 go_wp2_with fail
 refine(sSize _ x (zu W0).drew.r hz).mono ?_
 rintro e w4 ⟨rfl,bb⟩
 have bW:=zh (below_of_drew bb)
 have W4:=zh ((zu W0).step (zu bW))
 have K5:=And.intro (zu W4).c0 (zu W4).c1
 clear bb
 go_wp2_with fail
 refine hK.out _ _ K5 (fun hHeld=>?_)
 clear hK K
 try simp only[oA12,Act.put,zA,zB,zC]
 refine zT (oi:=oA15) 15 (.bool false) rfl hHeld ?_ (by intro w hSw;(try dsimp only at hSw);unfold oA15;go_simp)
 try simp only[oA15,Act.put,zA,zB,zC]
 refine zT (oi:=oA16) 16 (.bool false) rfl hHeld ?_ (by intro w hSw;(try dsimp only at hSw);unfold oA16;go_simp)
 try simp only[oA16,Act.put,zA,zB,zC]
 refine wpAnyH_done (by kernel_rfl) ?_ _
 clear W0 K4 K5 c0 c1 lt D bW
 have OK:=zh (fun h:∀i,i<x.ps.length→okAt x.ps i=>decide_eq_true (show OkD x.room x.ps from⟨(zu Q).1,(zu Q).2,q3,h⟩))
 clear q1
 go_wp2_with fail
 go_loopw [3] (fun i wr=>∃(k:Nat),k≤x.ps.length∧i= .int .i64 k∧Hid (∀j,j<k→okAt x.ps j)∧Hid (Wd w wr x)) (fun i _=>x.ps.length-(intOf i).toNat)
 case atStart=>exact⟨0,by omega,rfl,zh (fun j h=>absurd h (by omega)),W4⟩
 case round=>
  clear W4 hHeld
  obtain⟨k,hk,rfl,HY,HW⟩:=hrel
  have c1:=(zu HW).c1
  have lt:=(zu HW).lt
  by_cases t:k<x.ps.length
  ·have kt:(k:Int)<x.ps.length:=by omega
   obtain⟨g,ea,lg,d0,_,_⟩:=cells_of (zu HW).r t
   have NX:=zh (fun(e:okAt x.ps k) j (h:j<k+1)=>show okAt x.ps j from by
    by_cases q:j=k
    ·subst q;exact e
    ·exact(zu HY) j (by omega))
   have BAD:=zh (fun e:¬okAt x.ps k=>decide_eq_false (fun h:OkD x.room x.ps=>e (h.2.2.2 k t)))
   have NM0:=zh (fun u=>sName u (elF x.ps k).1)
   have DF:=zh (show okAt x.ps k↔okN (elF x.ps k).1=true∧(0<k→(elF x.ps (k-1)).1<(elF x.ps k).1) from Iff.rfl)
   rw[ea] at c1
   have RD:=zh (fun(h:0<k)=>(((zu HW).r.r g ea).2 (k-1) (by omega)).1)
   have EY:Hid (∃y,y=(elF x.ps (k-1)).1):=⟨_,rfl⟩
   obtain⟨y,ey⟩:=zu EY
   rw[←ey] at DF RD
   generalize okAt x.ps k=OA at *
   generalize (elF x.ps k).1=z at *
   clear ey EY HY ea
   cases qb:okN z
   ·have F:=zh ((zu BAD) (fun h=>by have:=((zu DF).1 h).1;rw[qb] at this;exact absurd this (by simp)))
    have NM:=zh (fun u=>by have:=(zu NM0) u;rw[qb] at this;exact this)
    have K6:=And.intro c1 d0
    clear BAD NX DF RD NM0 OK
    go_wp2_with fail
    refine wp_region_held_drew (S:=(fun w'=>w'.cell? ⟨w.heap.size,1,none⟩=some (.slice (some ⟨g,0,none⟩) x.ps.length x.c)∧w'.cell? ⟨g,k*3,none⟩=some (.int .i64 z))) (by kernel_rfl) K6 (fun hHeld=>?_)
    refine zT (oi:=oB0) 0 (.pointer (some ⟨w.heap.size,1,none⟩)) rfl hHeld ?_ (by intro w hSw;(try dsimp only at hSw);unfold oB0;go_simp)
    try simp only[oB0,Act.put,zA,zB,zC]
    refine zT (oi:=oB1) 1 (.slice (some ⟨g,0,none⟩) x.ps.length x.c) rfl hHeld ?_ (by intro w hSw;(try dsimp only at hSw);unfold oB1;go_simp)
    try simp only[oB1,Act.put,zA,zB,zC]
    refine zT (oi:=oB2) 2 (.int .i64 k) rfl hHeld ?_ (by intro w hSw;(try dsimp only at hSw);unfold oB2;go_simp)
    try simp only[oB2,Act.put,zA,zB,zC]
    refine zT (oi:=oB3) 3 (.pointer (some ⟨g,k*3,none⟩)) rfl hHeld ?_ (by intro w hSw;(try dsimp only at hSw);unfold oB3;go_simp)
    try simp only[oB3,Act.put,zA,zB,zC]
    refine zT (oi:=oB4) 4 (.pointer (some ⟨g,k*3,none⟩)) rfl hHeld ?_ (by intro w hSw;(try dsimp only at hSw);unfold oB4;go_simp)
    try simp only[oB4,Act.put,zA,zB,zC]
    refine zT (oi:=oB5) 5 (.int .i64 z) rfl hHeld ?_ (by intro w hSw;(try dsimp only at hSw);unfold oB5;go_simp)
    try simp only[oB5,Act.put,zA,zB,zC]
    refine zR (oi:=oB6) 6 rfl (fun K hK=>?_)
    unfold oB6
    go_simp
    go_wp2_with fail
    refine(zu NM _).mono ?_
    rintro e w5 ⟨rfl,rfl⟩
    go_wp2_with fail
    refine hK.out _ _ K6 (fun hHeld=>?_)
    clear hK K
    try simp only[oB6,Act.put,zA,zB,zC]
    refine zT (oi:=oB7) 7 (.bool true) rfl hHeld ?_ (by intro w hSw;(try dsimp only at hSw);unfold oB7;go_simp)
    try simp only[oB7,Act.put,zA,zB,zC]
    refine zT (oi:=oB8) 8 (.bool true) rfl hHeld ?_ (by intro w hSw;(try dsimp only at hSw);unfold oB8;go_simp)
    try simp only[oB8,Act.put,zA,zB,zC]
    refine zS (oi:=oB9) 9 rfl hHeld ?_
    try simp only[oB9,Act.put,zA,zB,zC]
    refine zS (oi:=oB10) 10 rfl hHeld ?_
    try simp only[oB10,Act.put,zA,zB,zC]
    refine zS (oi:=oB11) 11 rfl hHeld ?_
    try simp only[oB11,Act.put,zA,zB,zC]
    refine zS (oi:=oB12) 12 rfl hHeld ?_
    try simp only[oB12,Act.put,zA,zB,zC]
    refine zS (oi:=oB13) 13 rfl hHeld ?_
    try simp only[oB13,Act.put,zA,zB,zC]
    refine zS (oi:=oB14) 14 rfl hHeld ?_
    try simp only[oB14,Act.put,zA,zB,zC]
    refine zS (oi:=oB15) 15 rfl hHeld ?_
    try simp only[oB15,Act.put,zA,zB,zC]
    refine zS (oi:=oB16) 16 rfl hHeld ?_
    try simp only[oB16,Act.put,zA,zB,zC]
    refine zS (oi:=oB17) 17 rfl hHeld ?_
    try simp only[oB17,Act.put,zA,zB,zC]
    refine zS (oi:=oB18) 18 rfl hHeld ?_
    try simp only[oB18,Act.put,zA,zB,zC]
    refine zS (oi:=oB19) 19 rfl hHeld ?_
    try simp only[oB19,Act.put,zA,zB,zC]
    refine zS (oi:=oB20) 20 rfl hHeld ?_
    try simp only[oB20,Act.put,zA,zB,zC]
    refine zS (oi:=oB21) 21 rfl hHeld ?_
    try simp only[oB21,Act.put,zA,zB,zC]
    refine zS (oi:=oB22) 22 rfl hHeld ?_
    try simp only[oB22,Act.put,zA,zB,zC]
    refine zS (oi:=oB23) 23 rfl hHeld ?_
    try simp only[oB23,Act.put,zA,zB,zC]
    refine zS (oi:=oB24) 24 rfl hHeld ?_
    try simp only[oB24,Act.put,zA,zB,zC]
    refine zS (oi:=oB25) 25 rfl hHeld ?_
    try simp only[oB25,Act.put,zA,zB,zC]
    refine zS (oi:=oB26) 26 rfl hHeld ?_
    try simp only[oB26,Act.put,zA,zB,zC]
    refine zT (oi:=oB27) 27 (.bool true) rfl hHeld ?_ (by intro w hSw;(try dsimp only at hSw);unfold oB27;go_simp)
    try simp only[oB27,Act.put,zA,zB,zC]
    refine wpAnyH_done (by kernel_rfl) ?_ _
    go_wp2
    go_ret
    exact⟨by rw[zu F];rfl,(zu HW).b.drew⟩
   have NM:=zh (fun u=>by have:=(zu NM0) u;rw[qb] at this;exact this)
   by_cases k0:0<k
   ·by_cases qy:y<z
    ·have GN:=zh ((zu NX) ((zu DF).2 ⟨qb,fun _=>qy⟩))
     have p0:=(zu RD) k0
     obtain⟨p,hp⟩:∃p,p=k-1:=⟨_,rfl⟩
     rw[←hp] at p0
     have a1:IntKind.i64.wrap ((k:Int) -1)=p:=by simp[IntKind.wrap,go_sem];omega
     have k1:(k:Int)>0:=by omega
     have pl:(p:Int)<x.ps.length:=by omega
     have qn:¬y≥z:=by omega
     have K6:=And.intro c1 (And.intro d0 p0)
     clear BAD NX DF RD NM0 OK hp qy
     go_wp2_with fail
     refine wp_region_held_drew (S:=(fun w'=>w'.cell? ⟨w.heap.size,1,none⟩=some (.slice (some ⟨g,0,none⟩) x.ps.length x.c)∧w'.cell? ⟨g,k*3,none⟩=some (.int .i64 z)∧w'.cell? ⟨g,p*3,none⟩=some (.int .i64 y))) (by kernel_rfl) K6 (fun hHeld=>?_)
     refine zT (oi:=oB0) 0 (.pointer (some ⟨w.heap.size,1,none⟩)) rfl hHeld ?_ (by intro w hSw;(try dsimp only at hSw);unfold oB0;go_simp)
     try simp only[oB0,Act.put,zA,zB,zC]
     refine zT (oi:=oB1) 1 (.slice (some ⟨g,0,none⟩) x.ps.length x.c) rfl hHeld ?_ (by intro w hSw;(try dsimp only at hSw);unfold oB1;go_simp)
     try simp only[oB1,Act.put,zA,zB,zC]
     refine zT (oi:=oB2) 2 (.int .i64 k) rfl hHeld ?_ (by intro w hSw;(try dsimp only at hSw);unfold oB2;go_simp)
     try simp only[oB2,Act.put,zA,zB,zC]
     refine zT (oi:=oB3) 3 (.pointer (some ⟨g,k*3,none⟩)) rfl hHeld ?_ (by intro w hSw;(try dsimp only at hSw);unfold oB3;go_simp)
     try simp only[oB3,Act.put,zA,zB,zC]
     refine zT (oi:=oB4) 4 (.pointer (some ⟨g,k*3,none⟩)) rfl hHeld ?_ (by intro w hSw;(try dsimp only at hSw);unfold oB4;go_simp)
     try simp only[oB4,Act.put,zA,zB,zC]
     refine zT (oi:=oB5) 5 (.int .i64 z) rfl hHeld ?_ (by intro w hSw;(try dsimp only at hSw);unfold oB5;go_simp)
     try simp only[oB5,Act.put,zA,zB,zC]
     refine zR (oi:=oB6) 6 rfl (fun K hK=>?_)
     unfold oB6
     go_simp
     go_wp2_with fail
     refine(zu NM _).mono ?_
     rintro e w5 ⟨rfl,rfl⟩
     go_wp2_with fail
     refine hK.out _ _ K6 (fun hHeld=>?_)
     clear hK K
     try simp only[oB6,Act.put,zA,zB,zC]
     refine zT (oi:=oB7) 7 (.bool false) rfl hHeld ?_ (by intro w hSw;(try dsimp only at hSw);unfold oB7;go_simp)
     try simp only[oB7,Act.put,zA,zB,zC]
     refine zT (oi:=oB8) 8 (.bool false) rfl hHeld ?_ (by intro w hSw;(try dsimp only at hSw);unfold oB8;go_simp)
     try simp only[oB8,Act.put,zA,zB,zC]
     refine zT (oi:=oB9) 9 (.int .i64 k) rfl hHeld ?_ (by intro w hSw;(try dsimp only at hSw);unfold oB9;go_simp)
     try simp only[oB9,Act.put,zA,zB,zC]
     refine zT (oi:=oB10) 10 (.bool true) rfl hHeld ?_ (by intro w hSw;(try dsimp only at hSw);unfold oB10;go_simp)
     try simp only[oB10,Act.put,zA,zB,zC]
     refine zT (oi:=oB11) 11 (.bool true) rfl hHeld ?_ (by intro w hSw;(try dsimp only at hSw);unfold oB11;go_simp)
     try simp only[oB11,Act.put,zA,zB,zC]
     refine zT (oi:=oB12) 12 (.pointer (some ⟨w.heap.size,1,none⟩)) rfl hHeld ?_ (by intro w hSw;(try dsimp only at hSw);unfold oB12;go_simp)
     try simp only[oB12,Act.put,zA,zB,zC]
     refine zT (oi:=oB13) 13 (.slice (some ⟨g,0,none⟩) x.ps.length x.c) rfl hHeld ?_ (by intro w hSw;(try dsimp only at hSw);unfold oB13;go_simp)
     try simp only[oB13,Act.put,zA,zB,zC]
     refine zT (oi:=oB14) 14 (.int .i64 k) rfl hHeld ?_ (by intro w hSw;(try dsimp only at hSw);unfold oB14;go_simp)
     try simp only[oB14,Act.put,zA,zB,zC]
     refine zT (oi:=oB15) 15 (.int .i64 p) rfl hHeld ?_ (by intro w hSw;(try dsimp only at hSw);unfold oB15;go_simp)
     try simp only[oB15,Act.put,zA,zB,zC]
     refine zT (oi:=oB16) 16 (.pointer (some ⟨g,p*3,none⟩)) rfl hHeld ?_ (by intro w hSw;(try dsimp only at hSw);unfold oB16;go_simp)
     try simp only[oB16,Act.put,zA,zB,zC]
     refine zT (oi:=oB17) 17 (.pointer (some ⟨g,p*3,none⟩)) rfl hHeld ?_ (by intro w hSw;(try dsimp only at hSw);unfold oB17;go_simp)
     try simp only[oB17,Act.put,zA,zB,zC]
     refine zT (oi:=oB18) 18 (.int .i64 y) rfl hHeld ?_ (by intro w hSw;(try dsimp only at hSw);unfold oB18;go_simp)
     try simp only[oB18,Act.put,zA,zB,zC]
     refine zT (oi:=oB19) 19 (.pointer (some ⟨w.heap.size,1,none⟩)) rfl hHeld ?_ (by intro w hSw;(try dsimp only at hSw);unfold oB19;go_simp)
     try simp only[oB19,Act.put,zA,zB,zC]
     refine zT (oi:=oB20) 20 (.slice (some ⟨g,0,none⟩) x.ps.length x.c) rfl hHeld ?_ (by intro w hSw;(try dsimp only at hSw);unfold oB20;go_simp)
     try simp only[oB20,Act.put,zA,zB,zC]
     refine zT (oi:=oB21) 21 (.int .i64 k) rfl hHeld ?_ (by intro w hSw;(try dsimp only at hSw);unfold oB21;go_simp)
     try simp only[oB21,Act.put,zA,zB,zC]
     refine zT (oi:=oB22) 22 (.pointer (some ⟨g,k*3,none⟩)) rfl hHeld ?_ (by intro w hSw;(try dsimp only at hSw);unfold oB22;go_simp)
     try simp only[oB22,Act.put,zA,zB,zC]
     refine zT (oi:=oB23) 23 (.pointer (some ⟨g,k*3,none⟩)) rfl hHeld ?_ (by intro w hSw;(try dsimp only at hSw);unfold oB23;go_simp)
     try simp only[oB23,Act.put,zA,zB,zC]
     refine zT (oi:=oB24) 24 (.int .i64 z) rfl hHeld ?_ (by intro w hSw;(try dsimp only at hSw);unfold oB24;go_simp)
     try simp only[oB24,Act.put,zA,zB,zC]
     refine zT (oi:=oB25) 25 (.bool false) rfl hHeld ?_ (by intro w hSw;(try dsimp only at hSw);unfold oB25;go_simp)
     try simp only[oB25,Act.put,zA,zB,zC]
     refine zT (oi:=oB26) 26 (.bool false) rfl hHeld ?_ (by intro w hSw;(try dsimp only at hSw);unfold oB26;go_simp)
     try simp only[oB26,Act.put,zA,zB,zC]
     refine zT (oi:=oB27) 27 (.bool false) rfl hHeld ?_ (by intro w hSw;(try dsimp only at hSw);unfold oB27;go_simp)
     try simp only[oB27,Act.put,zA,zB,zC]
     refine wpAnyH_done (by kernel_rfl) ?_ _
     go_wp2
     go_roundw
     case rel=>exact⟨k+1,by omega,by go_num,GN,(zu HW).drew⟩
     case measure=>simp[intOf];omega
    ·have F:=zh ((zu BAD) (fun h=>qy (((zu DF).1 h).2 k0)))
     have p0:=(zu RD) k0
     obtain⟨p,hp⟩:∃p,p=k-1:=⟨_,rfl⟩
     rw[←hp] at p0
     have a1:IntKind.i64.wrap ((k:Int) -1)=p:=by simp[IntKind.wrap,go_sem];omega
     have k1:(k:Int)>0:=by omega
     have pl:(p:Int)<x.ps.length:=by omega
     have qn:y≥z:=by omega
     have K6:=And.intro c1 (And.intro d0 p0)
     clear BAD NX DF RD NM0 OK hp qy
     go_wp2_with fail
     refine wp_region_held_drew (S:=(fun w'=>w'.cell? ⟨w.heap.size,1,none⟩=some (.slice (some ⟨g,0,none⟩) x.ps.length x.c)∧w'.cell? ⟨g,k*3,none⟩=some (.int .i64 z)∧w'.cell? ⟨g,p*3,none⟩=some (.int .i64 y))) (by kernel_rfl) K6 (fun hHeld=>?_)
     refine zT (oi:=oB0) 0 (.pointer (some ⟨w.heap.size,1,none⟩)) rfl hHeld ?_ (by intro w hSw;(try dsimp only at hSw);unfold oB0;go_simp)
     try simp only[oB0,Act.put,zA,zB,zC]
     refine zT (oi:=oB1) 1 (.slice (some ⟨g,0,none⟩) x.ps.length x.c) rfl hHeld ?_ (by intro w hSw;(try dsimp only at hSw);unfold oB1;go_simp)
     try simp only[oB1,Act.put,zA,zB,zC]
     refine zT (oi:=oB2) 2 (.int .i64 k) rfl hHeld ?_ (by intro w hSw;(try dsimp only at hSw);unfold oB2;go_simp)
     try simp only[oB2,Act.put,zA,zB,zC]
     refine zT (oi:=oB3) 3 (.pointer (some ⟨g,k*3,none⟩)) rfl hHeld ?_ (by intro w hSw;(try dsimp only at hSw);unfold oB3;go_simp)
     try simp only[oB3,Act.put,zA,zB,zC]
     refine zT (oi:=oB4) 4 (.pointer (some ⟨g,k*3,none⟩)) rfl hHeld ?_ (by intro w hSw;(try dsimp only at hSw);unfold oB4;go_simp)
     try simp only[oB4,Act.put,zA,zB,zC]
     refine zT (oi:=oB5) 5 (.int .i64 z) rfl hHeld ?_ (by intro w hSw;(try dsimp only at hSw);unfold oB5;go_simp)
     try simp only[oB5,Act.put,zA,zB,zC]
     refine zR (oi:=oB6) 6 rfl (fun K hK=>?_)
     unfold oB6
     go_simp
     go_wp2_with fail
     refine(zu NM _).mono ?_
     rintro e w5 ⟨rfl,rfl⟩
     go_wp2_with fail
     refine hK.out _ _ K6 (fun hHeld=>?_)
     clear hK K
     try simp only[oB6,Act.put,zA,zB,zC]
     refine zT (oi:=oB7) 7 (.bool false) rfl hHeld ?_ (by intro w hSw;(try dsimp only at hSw);unfold oB7;go_simp)
     try simp only[oB7,Act.put,zA,zB,zC]
     refine zT (oi:=oB8) 8 (.bool false) rfl hHeld ?_ (by intro w hSw;(try dsimp only at hSw);unfold oB8;go_simp)
     try simp only[oB8,Act.put,zA,zB,zC]
     refine zT (oi:=oB9) 9 (.int .i64 k) rfl hHeld ?_ (by intro w hSw;(try dsimp only at hSw);unfold oB9;go_simp)
     try simp only[oB9,Act.put,zA,zB,zC]
     refine zT (oi:=oB10) 10 (.bool true) rfl hHeld ?_ (by intro w hSw;(try dsimp only at hSw);unfold oB10;go_simp)
     try simp only[oB10,Act.put,zA,zB,zC]
     refine zT (oi:=oB11) 11 (.bool true) rfl hHeld ?_ (by intro w hSw;(try dsimp only at hSw);unfold oB11;go_simp)
     try simp only[oB11,Act.put,zA,zB,zC]
     refine zT (oi:=oB12) 12 (.pointer (some ⟨w.heap.size,1,none⟩)) rfl hHeld ?_ (by intro w hSw;(try dsimp only at hSw);unfold oB12;go_simp)
     try simp only[oB12,Act.put,zA,zB,zC]
     refine zT (oi:=oB13) 13 (.slice (some ⟨g,0,none⟩) x.ps.length x.c) rfl hHeld ?_ (by intro w hSw;(try dsimp only at hSw);unfold oB13;go_simp)
     try simp only[oB13,Act.put,zA,zB,zC]
     refine zT (oi:=oB14) 14 (.int .i64 k) rfl hHeld ?_ (by intro w hSw;(try dsimp only at hSw);unfold oB14;go_simp)
     try simp only[oB14,Act.put,zA,zB,zC]
     refine zT (oi:=oB15) 15 (.int .i64 p) rfl hHeld ?_ (by intro w hSw;(try dsimp only at hSw);unfold oB15;go_simp)
     try simp only[oB15,Act.put,zA,zB,zC]
     refine zT (oi:=oB16) 16 (.pointer (some ⟨g,p*3,none⟩)) rfl hHeld ?_ (by intro w hSw;(try dsimp only at hSw);unfold oB16;go_simp)
     try simp only[oB16,Act.put,zA,zB,zC]
     refine zT (oi:=oB17) 17 (.pointer (some ⟨g,p*3,none⟩)) rfl hHeld ?_ (by intro w hSw;(try dsimp only at hSw);unfold oB17;go_simp)
     try simp only[oB17,Act.put,zA,zB,zC]
     refine zT (oi:=oB18) 18 (.int .i64 y) rfl hHeld ?_ (by intro w hSw;(try dsimp only at hSw);unfold oB18;go_simp)
     try simp only[oB18,Act.put,zA,zB,zC]
     refine zT (oi:=oB19) 19 (.pointer (some ⟨w.heap.size,1,none⟩)) rfl hHeld ?_ (by intro w hSw;(try dsimp only at hSw);unfold oB19;go_simp)
     try simp only[oB19,Act.put,zA,zB,zC]
     refine zT (oi:=oB20) 20 (.slice (some ⟨g,0,none⟩) x.ps.length x.c) rfl hHeld ?_ (by intro w hSw;(try dsimp only at hSw);unfold oB20;go_simp)
     try simp only[oB20,Act.put,zA,zB,zC]
     refine zT (oi:=oB21) 21 (.int .i64 k) rfl hHeld ?_ (by intro w hSw;(try dsimp only at hSw);unfold oB21;go_simp)
     try simp only[oB21,Act.put,zA,zB,zC]
     refine zT (oi:=oB22) 22 (.pointer (some ⟨g,k*3,none⟩)) rfl hHeld ?_ (by intro w hSw;(try dsimp only at hSw);unfold oB22;go_simp)
     try simp only[oB22,Act.put,zA,zB,zC]
     refine zT (oi:=oB23) 23 (.pointer (some ⟨g,k*3,none⟩)) rfl hHeld ?_ (by intro w hSw;(try dsimp only at hSw);unfold oB23;go_simp)
     try simp only[oB23,Act.put,zA,zB,zC]
     refine zT (oi:=oB24) 24 (.int .i64 z) rfl hHeld ?_ (by intro w hSw;(try dsimp only at hSw);unfold oB24;go_simp)
     try simp only[oB24,Act.put,zA,zB,zC]
     refine zT (oi:=oB25) 25 (.bool true) rfl hHeld ?_ (by intro w hSw;(try dsimp only at hSw);unfold oB25;go_simp)
     try simp only[oB25,Act.put,zA,zB,zC]
     refine zT (oi:=oB26) 26 (.bool true) rfl hHeld ?_ (by intro w hSw;(try dsimp only at hSw);unfold oB26;go_simp)
     try simp only[oB26,Act.put,zA,zB,zC]
     refine zT (oi:=oB27) 27 (.bool true) rfl hHeld ?_ (by intro w hSw;(try dsimp only at hSw);unfold oB27;go_simp)
     try simp only[oB27,Act.put,zA,zB,zC]
     refine wpAnyH_done (by kernel_rfl) ?_ _
     go_wp2
     go_ret
     exact⟨by rw[zu F];rfl,(zu HW).b.drew⟩
   ·have GN:=zh ((zu NX) ((zu DF).2 ⟨qb,fun h=>absurd h k0⟩))
    have kn:¬(k:Int)>0:=by omega
    have K6:=And.intro c1 d0
    clear BAD NX DF RD NM0 OK
    go_wp2_with fail
    refine wp_region_held_drew (S:=(fun w'=>w'.cell? ⟨w.heap.size,1,none⟩=some (.slice (some ⟨g,0,none⟩) x.ps.length x.c)∧w'.cell? ⟨g,k*3,none⟩=some (.int .i64 z))) (by kernel_rfl) K6 (fun hHeld=>?_)
    refine zT (oi:=oB0) 0 (.pointer (some ⟨w.heap.size,1,none⟩)) rfl hHeld ?_ (by intro w hSw;(try dsimp only at hSw);unfold oB0;go_simp)
    try simp only[oB0,Act.put,zA,zB,zC]
    refine zT (oi:=oB1) 1 (.slice (some ⟨g,0,none⟩) x.ps.length x.c) rfl hHeld ?_ (by intro w hSw;(try dsimp only at hSw);unfold oB1;go_simp)
    try simp only[oB1,Act.put,zA,zB,zC]
    refine zT (oi:=oB2) 2 (.int .i64 k) rfl hHeld ?_ (by intro w hSw;(try dsimp only at hSw);unfold oB2;go_simp)
    try simp only[oB2,Act.put,zA,zB,zC]
    refine zT (oi:=oB3) 3 (.pointer (some ⟨g,k*3,none⟩)) rfl hHeld ?_ (by intro w hSw;(try dsimp only at hSw);unfold oB3;go_simp)
    try simp only[oB3,Act.put,zA,zB,zC]
    refine zT (oi:=oB4) 4 (.pointer (some ⟨g,k*3,none⟩)) rfl hHeld ?_ (by intro w hSw;(try dsimp only at hSw);unfold oB4;go_simp)
    try simp only[oB4,Act.put,zA,zB,zC]
    refine zT (oi:=oB5) 5 (.int .i64 z) rfl hHeld ?_ (by intro w hSw;(try dsimp only at hSw);unfold oB5;go_simp)
    try simp only[oB5,Act.put,zA,zB,zC]
    refine zR (oi:=oB6) 6 rfl (fun K hK=>?_)
    unfold oB6
    go_simp
    go_wp2_with fail
    refine(zu NM _).mono ?_
    rintro e w5 ⟨rfl,rfl⟩
    go_wp2_with fail
    refine hK.out _ _ K6 (fun hHeld=>?_)
    clear hK K
    try simp only[oB6,Act.put,zA,zB,zC]
    refine zT (oi:=oB7) 7 (.bool false) rfl hHeld ?_ (by intro w hSw;(try dsimp only at hSw);unfold oB7;go_simp)
    try simp only[oB7,Act.put,zA,zB,zC]
    refine zT (oi:=oB8) 8 (.bool false) rfl hHeld ?_ (by intro w hSw;(try dsimp only at hSw);unfold oB8;go_simp)
    try simp only[oB8,Act.put,zA,zB,zC]
    refine zT (oi:=oB9) 9 (.int .i64 k) rfl hHeld ?_ (by intro w hSw;(try dsimp only at hSw);unfold oB9;go_simp)
    try simp only[oB9,Act.put,zA,zB,zC]
    refine zT (oi:=oB10) 10 (.bool false) rfl hHeld ?_ (by intro w hSw;(try dsimp only at hSw);unfold oB10;go_simp)
    try simp only[oB10,Act.put,zA,zB,zC]
    refine zT (oi:=oB11) 11 (.bool false) rfl hHeld ?_ (by intro w hSw;(try dsimp only at hSw);unfold oB11;go_simp)
    try simp only[oB11,Act.put,zA,zB,zC]
    refine zS (oi:=oB12) 12 rfl hHeld ?_
    try simp only[oB12,Act.put,zA,zB,zC]
    refine zS (oi:=oB13) 13 rfl hHeld ?_
    try simp only[oB13,Act.put,zA,zB,zC]
    refine zS (oi:=oB14) 14 rfl hHeld ?_
    try simp only[oB14,Act.put,zA,zB,zC]
    refine zS (oi:=oB15) 15 rfl hHeld ?_
    try simp only[oB15,Act.put,zA,zB,zC]
    refine zS (oi:=oB16) 16 rfl hHeld ?_
    try simp only[oB16,Act.put,zA,zB,zC]
    refine zS (oi:=oB17) 17 rfl hHeld ?_
    try simp only[oB17,Act.put,zA,zB,zC]
    refine zS (oi:=oB18) 18 rfl hHeld ?_
    try simp only[oB18,Act.put,zA,zB,zC]
    refine zS (oi:=oB19) 19 rfl hHeld ?_
    try simp only[oB19,Act.put,zA,zB,zC]
    refine zS (oi:=oB20) 20 rfl hHeld ?_
    try simp only[oB20,Act.put,zA,zB,zC]
    refine zS (oi:=oB21) 21 rfl hHeld ?_
    try simp only[oB21,Act.put,zA,zB,zC]
    refine zS (oi:=oB22) 22 rfl hHeld ?_
    try simp only[oB22,Act.put,zA,zB,zC]
    refine zS (oi:=oB23) 23 rfl hHeld ?_
    try simp only[oB23,Act.put,zA,zB,zC]
    refine zS (oi:=oB24) 24 rfl hHeld ?_
    try simp only[oB24,Act.put,zA,zB,zC]
    refine zS (oi:=oB25) 25 rfl hHeld ?_
    try simp only[oB25,Act.put,zA,zB,zC]
    refine zT (oi:=oB26) 26 (.bool false) rfl hHeld ?_ (by intro w hSw;(try dsimp only at hSw);unfold oB26;go_simp)
    try simp only[oB26,Act.put,zA,zB,zC]
    refine zT (oi:=oB27) 27 (.bool false) rfl hHeld ?_ (by intro w hSw;(try dsimp only at hSw);unfold oB27;go_simp)
    try simp only[oB27,Act.put,zA,zB,zC]
    refine wpAnyH_done (by kernel_rfl) ?_ _
    go_wp2
    go_roundw
    case rel=>exact⟨k+1,by omega,by go_num,GN,(zu HW).drew⟩
    case measure=>simp[intOf];omega
  ·have e:k=x.ps.length:=by omega
   have E:=zh ((zu OK) (by rw[←e];exact zu HY))
   clear HY OK
   subst e
   go_wp2
   go_ret
   exact⟨by rw[zu E];rfl,(zu HW).b⟩
end SOk14
end Go.Proofs.YtlbgfdpcgpijhaaGreat
