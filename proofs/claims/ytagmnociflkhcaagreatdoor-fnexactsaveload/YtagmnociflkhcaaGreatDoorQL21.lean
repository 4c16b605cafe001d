/- Texts of one proof, one behind the other: App14, SLess14, SCom14, Law14, IFile14, IOk14, SPut14, Pure14. -/
import Derived.Test.YtagmnociflkhcaaGreatDoorRows
import Derived.Test.YtagmnociflkhcaaGreatDoorCards
import Derived.Test.YtagmnociflkhcaaGreatDoorTie
import Derived.Test.YtagmnociflkhcaaGreatDoorQL0
import Derived.Test.YtagmnociflkhcaaGreatDoorQL20
import Derived.Deep.RegionHeld3
import Derived.Maps.AppendAt
set_option linter.unusedVariables false
set_option linter.unusedSimpArgs false
open Go.ChangeShapes Go.WideShapes Go.ChangeAt Go.RowKit
set_option maxRecDepth 100000
set_option maxHeartbeats 32000000
namespace Go.Proofs.YtagmnociflkhcaaGreatDoor
namespace App14
open Fil14 OpensF14 DiskH14 DkH14 SDk14 SOk14 SRd14
theorem kcell{W W':World}{G g:Nat}(k:W.grownBy W' (some G))(o:Nat)(hg:g<W.heap.size)(hG:g≠G):W'.cell? ⟨g,o,none⟩=W.cell? ⟨g,o,none⟩:=
 World.cell?_of_block (w:=W) (k.block g hg (by simpa using hG))
end App14
namespace SLess14
open Fil14 OpensF14 DiskH14 DkH14 SDk14 SOk14 SRd14 App14
open DkH14 (row_step)
theorem grow_low{B:Nat}{w W W':World}{G:Nat}(h:Below B w W)(k:W.grownBy W' (some G))(hB:B≤G∧B≤W.heap.size):Below B w W':=
 ⟨k.os.trans h.os,k.tape.trans h.tape,k.output.trans h.output,Nat.le_trans h.size k.size,fun i hi=>(k.block i (by omega) (by simp;omega)).trans (h.block i hi)⟩
end SLess14
namespace SCom14
open Fil14 OpensF14 DiskH14 DkH14 SDk14 SOk14 SRd14 App14 SLess14
theorem ixF{a:Option Addr}{g n k:Nat}(c:Nat)(e:a=some ⟨g,0,none⟩)(h:k<n)(w:World):(Instr.indexAt 37 (.slice a n c) (.int .i64 k)).run Tryz.prog w= .ok (.pointer (some ⟨g,k*3,none⟩)) w:=by
 subst e
 have:(k:Int)<n:=by omega
 simp[go_sem,this]
end SCom14
namespace Law14
open Fil14 OpensF14 DiskH14 DkH14 SCom14
structure La(w W:World)(k:Int)(a:Option Addr)(len cap:Nat)(ps:List TF):Prop where
 c0:W.cell? ⟨w.heap.size,0,none⟩=some (.int .i64 k)
 c1:W.cell? ⟨w.heap.size,1,none⟩=some (.slice a len cap)
 s:w.heap.size<W.heap.size
 b:Below w.heap.size w W
 r:ReadsF W a ps
section
variable {w W W':World} {k:Int} {a:Option Addr} {len cap:Nat} {ps:List TF}
theorem La.start(h:ReadsF w a ps)(e:TypeId):La w (w.alloc (.cells #[.int .i64 k,.slice a len cap] e)) k a len cap ps:=
 ⟨by simp,by simp,by simp,one_more _ _,h.below (one_more _ _)⟩
theorem La.step(h:La w W k a len cap ps)(b:Below W.heap.size W W'):La w W' k a len cap ps:=
 ⟨(b.cell (p:=⟨w.heap.size,0,none⟩) h.s).trans h.c0,(b.cell (p:=⟨w.heap.size,1,none⟩) h.s).trans h.c1,Nat.lt_of_lt_of_le h.s b.size,h.b.trans (b.mono (Nat.le_of_lt h.s)),h.r.below b⟩
theorem La.turn{B:Nat}(H:ReadsF w a ps)(h:La w W k a len cap ps)(b:Below B W W')(hB:w.heap.size<B):La w W' k a len cap ps:=by
 have q:=h.b.trans (b.mono (Nat.le_of_lt hB))
 exact⟨(b.cell (p:=⟨w.heap.size,0,none⟩) hB).trans h.c0,(b.cell (p:=⟨w.heap.size,1,none⟩) hB).trans h.c1,Nat.lt_of_lt_of_le h.s b.size,q,H.below q⟩
end
structure Kd(W:World)(g:Nat)(x:Dx):Prop where
 c0:W.cell? ⟨g,0,none⟩=some (.int .i64 x.room)
 c1:W.cell? ⟨g,1,none⟩=some (.slice x.a x.ps.length x.c)
 lt:g<W.heap.size
theorem Kd.made(w:World)(x:Dx)(e:TypeId):Kd (w.alloc (.cells #[.int .i64 x.room,.slice x.a x.ps.length x.c] e)) w.heap.size x:=⟨by simp,by simp,by simp⟩
theorem Kd.step{W W':World}{g:Nat}{x:Dx}(h:Kd W g x)(k:Below W.heap.size W W'):Kd W' g x:=
 ⟨(k.cell (p:=⟨g,0,none⟩) h.lt).trans h.c0,(k.cell (p:=⟨g,1,none⟩) h.lt).trans h.c1,Nat.lt_of_lt_of_le h.lt k.size⟩
theorem Kd.turn{W W':World}{g:Nat}{x y:Dx}(h:Kd W g x)(k:TurnD y W W')(n:some g≠(Value.slice y.a y.ps.length y.c).ownBlock):Kd W' g x:=by
 have e:W'.heap[g]?=W.heap[g]?:=k.block g h.lt n
 exact⟨(World.cell?_of_block (w:=W) e).trans h.c0,(World.cell?_of_block (w:=W) e).trans h.c1,Nat.lt_of_lt_of_le h.lt k.size⟩
theorem own_lt{W:World}{base g:Nat}{y:Dx}(h:OwD W base y)(e:(Value.slice y.a y.ps.length y.c).ownBlock=some g):base≤g∧g<W.heap.size:=World.ownsRow.lt h g e
end Law14
namespace IFile14
open Fil14 OpensF14 DiskH14 DkH14 SDk14 SOk14
theorem iName(w:World)(n:Int):Calls Tryz.prog 76 #[.int .i64 n] w fun e w'=>e= .returned (.bool (okN n))∧w'=w:=by
 unfold okN
 by_cases h0:0≤n
 ·by_cases h1:n≤21
  ·rw[decide_eq_true ⟨h0,h1⟩]
   have a:n≥0:=h0
   have b:n<22:=by omega
   clear h1
   go_enter Tryz.func76,Tryz.ntmps76
   go_wp2
   go_ret
   exact⟨rfl,rfl⟩
  ·rw[decide_eq_false (fun q=>h1 q.2)]
   have a:n≥0:=h0
   have b:¬n<22:=by omega
   clear h1
   go_enter Tryz.func76,Tryz.ntmps76
   go_wp2
   go_ret
   exact⟨rfl,rfl⟩
 ·rw[decide_eq_false (fun q=>h0 q.1)]
  have a:¬n≥0:=h0
  go_enter Tryz.func76,Tryz.ntmps76
  go_wp2
  go_ret
  exact⟨rfl,rfl⟩
theorem iNameB(w:World)(n:Int)(b:Bool)(h:okN n=b):Calls Tryz.prog 76 #[.int .i64 n] w fun e w'=>e= .returned (.bool b)∧w'=w:=by
 rw[←h]
 exact iName w n
theorem iSizeF(w:World)(p0:Int)(p1 p2:ByteArray)(h:p1.size+p2.size≤1048576):Calls Tryz.prog 75 #[.agg #[.int .i64 p0,.string p1,.string p2]] w fun e w'=>e= .returned (.int .i64 ((p1.size:Int)+p2.size))∧Below w.heap.size w w':=by
 have B:=zh (one_more w (.cells #[.int .i64 p0,.string p1,.string p2] 66))
 have a1:wrap64 ((p1.size:Int)+p2.size)=p1.size+p2.size:=by rw[wrap64];omega
 go_enter Tryz.func75,Tryz.ntmps75
 go_wp2
 go_ret
 exact⟨rfl,zu B⟩
theorem iText(w:World)(p0:Int)(p1 p2:ByteArray)(h:p1.size+p2.size≤1048576):Calls Tryz.prog 40 #[.agg #[.int .i64 p0,.string p1,.string p2]] w fun e w'=>e= .returned (.string (p1++p2))∧Below w.heap.size w w':=by
 have B:=zh (one_more w (.cells #[.int .i64 p0,.string p1,.string p2] 66))
 go_enter Tryz.func40,Tryz.ntmps40
 go_wp2
 go_ret
 exact⟨rfl,zu B⟩
end IFile14
namespace IOk14
open Fil14 OpensF14 DiskH14 DkH14 SDk14 SOk14 IFile14
def Okk(ps:List TF)(room:Int)(k:Nat)(lf y:Int):Prop:=lf=room-sumZ (ps.take k)∧(k=0→y= -1)∧(0<k→y=(elF ps (k-1)).1)∧∀i,i<k→okAt ps i
theorem okk_0(ps:List TF)(room:Int):Okk ps room 0 room (-1):=⟨by simp[sumZ],fun _=>rfl,fun h=>absurd h (by omega),fun i h=>absurd h (by omega)⟩
theorem okk_next{ps:List TF}{room:Int}{k:Nat}{lf y:Int}(h:Okk ps room k lf y)(hk:k<ps.length)(a:okN (elF ps k).1=true)(b:¬(elF ps k).1≤y):Okk ps room (k+1) (lf-((elF ps k).2.1.size+(elF ps k).2.2.size)) (elF ps k).1:=by
 obtain⟨h1,h2,h3,h4⟩:=h
 have n:=sumZ_next hk
 refine⟨by omega,fun e=>absurd e (by omega),fun _=>by simp,fun i hi=>?_⟩
 by_cases e:i=k
 ·subst e
  refine⟨a,fun p=>?_⟩
  have:=h3 p
  omega
 ·exact h4 i (by omega)
theorem okk_bad1{ps:List TF}{room:Int}{k:Nat}(hk:k<ps.length)(a:okN (elF ps k).1=false):¬OkD room ps:=fun h=>by
 have:=(h.2.2.2 k hk).1
 rw[a] at this
 cases this
theorem okk_bad2{ps:List TF}{room:Int}{k:Nat}{lf y:Int}(g:Okk ps room k lf y)(hk:k<ps.length)(a:okN (elF ps k).1=true)(b:(elF ps k).1≤y):¬OkD room ps:=fun h=>by
 have n:=(h.2.2.2 k hk).2
 have l:0≤(elF ps k).1:=(of_decide_eq_true a).1
 by_cases e:k=0
 ·have:=g.2.1 e
  omega
 ·have:=g.2.2.1 (by omega)
  have:=n (by omega)
  omega
theorem okk_bad3{ps:List TF}{room:Int}{k:Nat}{lf y:Int}(g:Okk ps room k lf y)(hk:k<ps.length)(b:lf-((elF ps k).2.1.size+(elF ps k).2.2.size)<0):¬OkD room ps:=fun h=>by
 have n:=sumZ_next hk
 have l:=sumZ_le ps (k+1)
 have:=h.2.2.1
 have:=g.1
 omega
theorem names_up{ps:List TF}(h:∀i,i<ps.length→okAt ps i):∀i:Nat,i<ps.length→(i:Int)≤(elF ps i).1
 |0=>fun q=>by
  have:=(h 0 q).1
  exact(of_decide_eq_true this).1
 |i+1=>fun q=>by
  have:=names_up h i (by omega)
  have:=(h (i+1) q).2 (by omega)
  simp only[Nat.add_sub_cancel] at this
  omega
theorem okk_all{ps:List TF}{room:Int}{lf y:Int}(g:Okk ps room ps.length lf y)(h0:0≤room∧room≤60000)(hl:0≤lf):OkD room ps:=by
 obtain⟨h1,_,_,h4⟩:=g
 rw[List.take_length] at h1
 refine⟨h0,?_,by omega,h4⟩
 by_cases e:ps.length=0
 ·omega
 ·have a:=names_up h4 (ps.length-1) (by omega)
  have b:=(h4 (ps.length-1) (by omega)).1
  have b:=(of_decide_eq_true b).2
  omega
theorem iDiskOk(w:World)(x:Dx)(hr:RdD w x)(hz:sumZ x.ps≤1048576):
  Calls Tryz.prog 38 #[.agg #[.int .i64 x.room,.slice x.a x.ps.length x.c]] w fun e w'=>e= .returned (.bool (decide (OkD x.room x.ps)))∧Below w.heap.size w w':=by
 have W0:=zh (Wd.made hr 39)
 have h20:=hr.n
 clear hr
 generalize hR:decide (OkD x.room x.ps)=R
 have HR:=zh hR
 clear hR
 by_cases q0:x.room<0
 ·obtain rfl:R=false:=by rw[←zu HR];exact decide_eq_false (fun h=>by have:=h.1;omega)
  clear HR
  go_enter Tryz.func38,Tryz.ntmps38
  go_wp2
  go_ret
  exact⟨rfl,(zu W0).b⟩
 have d0:decide (x.room<0)=false:=decide_eq_false q0
 by_cases q1:x.room>60000
 ·obtain rfl:R=false:=by rw[←zu HR];exact decide_eq_false (fun h=>by have:=h.1;omega)
  clear HR q0
  go_enter Tryz.func38,Tryz.ntmps38
  go_wp2
  go_ret
  exact⟨rfl,(zu W0).b⟩
 have d1:decide (x.room>60000)=false:=decide_eq_false q1
 have RM:=zh (show 0≤x.room∧x.room≤60000 by omega)
 have OK0:=zh (okk_0 x.ps x.room)
 clear q0 q1
 go_enter Tryz.func38,Tryz.ntmps38
 go_wp2
 go_loopw [3,4,20] (fun l b i wr=>∃(k:Nat) (lf y:Int),k≤x.ps.length∧i= .int .i64 k∧l= .int .i64 lf∧b= .int .i64 y∧0≤lf∧lf≤60000∧Hid (Okk x.ps x.room k lf y)∧Hid (Wd w wr x)) (fun _ _ i _=>x.ps.length-(intOf i).toNat)
 case atStart=>exact⟨0,x.room,-1,by omega,rfl,rfl,rfl,(zu RM).1,(zu RM).2,OK0,W0⟩
 case round=>
  clear W0 OK0 d0 d1
  obtain⟨k,lf,y,hk,rfl,rfl,rfl,y0,y1,HY,HW⟩:=hrel
  by_cases t:k<x.ps.length
  ·have kt:(k:Int)<x.ps.length:=by omega
   have NX:=sumZ_next t
   have LE:=sumZ_le x.ps (k+1)
   have BAD1:=zh (fun a=>okk_bad1 (room:=x.room) t a)
   have BAD2:=zh (fun a b=>okk_bad2 (zu HY) t a b)
   have BAD3:=zh (fun a=>okk_bad3 (zu HY) t a)
   have GO:=zh (fun a b=>okk_next (zu HY) t a b)
   obtain⟨g,ea,lg,e0,e1,e2⟩:=cells_of (zu HW).r t
   have c1:=(zu HW).c1
   have lt:=(zu HW).lt
   generalize (elF x.ps k).1=z0 at *
   generalize (elF x.ps k).2.1=z1 at *
   generalize (elF x.ps k).2.2=z2 at *
   have b1:z1.size+z2.size≤1048576:=by omega
   obtain⟨lg2,hl⟩:∃q,q=lf-((z1.size:Int)+z2.size):=⟨_,rfl⟩
   have a2:wrap64 (lf-((z1.size:Int)+z2.size))=lg2:=by rw[wrap64];omega
   have S3:=zh (fun h:¬lg2<0=>show 0≤lg2∧lg2≤60000 by omega)
   have BAD4:=zh (fun h:lg2<0=>(zu BAD3) (by rw[←hl];exact h))
   rw[←hl] at GO
   clear hl BAD3
   clear NX LE HY
   have IX:=SCom14.ixF x.c ea t
   clear ea c1
   have OB:=zh (one_more wr (.cells #[.int .i64 z0,.string z1,.string z2] 66))
   have F0:(wr.alloc (.cells #[.int .i64 z0,.string z1,.string z2] 66)).cell? ⟨wr.heap.size,0,none⟩=some (.int .i64 z0):=by simp[go_sem]
   have FS:wr.heap.size<(wr.alloc (.cells #[.int .i64 z0,.string z1,.string z2] 66)).heap.size:=by simp
   have F:=zh (And.intro F0 FS)
   clear F0 FS
   go_wp2_with fail
   refine(iSizeF _ z0 z1 z2 b1).mono ?_
   rintro e w2 ⟨rfl,bb⟩
   have f0:=(bb.cell (p:=⟨wr.heap.size,0,none⟩) (zu F).2).trans (zu F).1
   have HW2:=zh (((zu HW).step (zu OB)).step bb)
   clear bb OB F HW e0 e1 e2 IX
   have D:=zh (fun u b h=>iNameB u z0 b h)
   clear b1
   by_cases n1:okN z0=true
   ·have N1:=zh n1
    clear n1
    by_cases n2:z0≤y
    ·obtain rfl:R=false:=by rw[←zu HR];exact decide_eq_false ((zu BAD2) (zu N1) n2)
     clear BAD1 BAD2 BAD4 GO HR
     go_wp2_with fail
     refine(zu D _ true (zu N1)).mono ?_
     rintro e u ⟨rfl,rfl⟩
     go_wp2
     go_ret
     exact⟨rfl,(zu HW2).b⟩
    ·have n2':decide (z0≤y)=false:=decide_eq_false n2
     have GO':=zh ((zu GO) (zu N1) (by omega))
     clear n2 GO BAD1 BAD2
     by_cases n3:lg2<0
     ·obtain rfl:R=false:=by rw[←zu HR];exact decide_eq_false ((zu BAD4) n3)
      clear BAD4 GO' HR
      go_wp2_with fail
      refine(zu D _ true (zu N1)).mono ?_
      rintro e u ⟨rfl,rfl⟩
      go_wp2
      go_ret
      exact⟨rfl,(zu HW2).b⟩
     ·have n3':decide (lg2<0)=false:=decide_eq_false n3
      have S:=zh ((zu S3) (by omega))
      clear n3 BAD4
      go_wp2_with fail
      refine(zu D _ true (zu N1)).mono ?_
      rintro e u ⟨rfl,rfl⟩
      go_wp2
      go_roundw
      case rel=>exact⟨k+1,lg2,z0,by omega,by go_num,rfl,rfl,(zu S).1,(zu S).2,GO',HW2⟩
      case measure=>simp[intOf];omega
   ·have n1':okN z0=false:=by simpa using n1
    obtain rfl:R=false:=by rw[←zu HR];exact decide_eq_false ((zu BAD1) n1')
    have N1:=zh n1'
    clear BAD1 BAD2 BAD4 GO HR n1 n1'
    go_wp2_with fail
    refine(zu D _ false (zu N1)).mono ?_
    rintro e u ⟨rfl,rfl⟩
    go_wp2
    go_ret
    exact⟨rfl,(zu HW2).b⟩
  ·have e:k=x.ps.length:=by omega
   have kt:¬(k:Int)<x.ps.length:=by omega
   obtain rfl:R=true:=by rw[←zu HR];exact decide_eq_true (okk_all (by rw[←e];exact zu HY) (zu RM) y0)
   clear HY HR
   subst e
   go_wp2
   go_ret
   exact⟨rfl,(zu HW).b⟩
end IOk14
namespace SPut14
open Fil14 OpensF14 DiskH14 DkH14 SDk14 SOk14 SRd14 App14 SLess14
open DkH14 (row_step)
structure Pt(B O:Nat)(W wr:World)(room:Int)(L:List TF)(a:Option Addr)(m c:Nat):Prop where
 gr:W.grownBy wr (some O)
 bx:Bc wr B O (.int .i64 room) (.slice a m c)
 ow:wr.ownsRow W.heap.size 66 3 (.slice a m c) m (flatF L)
theorem Pt.drew{B O:Nat}{W wr:World}{room:Int}{L:List TF}{a:Option Addr}{m c:Nat}(h:Pt B O W wr room L a m c):Pt B O W wr.drew room L a m c:=⟨⟨h.gr.os,h.gr.tape,h.gr.output,h.gr.size,h.gr.block⟩,h.bx,h.ow⟩
theorem Pt.off{B O:Nat}{W wr:World}{room:Int}{L:List TF}{a:Option Addr}{m c:Nat}(h:Pt B O W wr room L a m c):∀j,(Value.slice a m c).ownBlock=some j→W.heap.size≤j:=fun j hj=>(World.ownsRow.lt h.ow j hj).1
end SPut14
namespace Pure14
open Fil14 DiskH14 SDk14 SOk14 SRd14 SLess14 SCom14 SPut14
def Asc(ps:List TF):Prop:=ps.Pairwise (fun p q=>p.1<q.1)
def Named(ps:List TF):Prop:=∀p∈ps,0≤p.1∧p.1≤21
theorem elF_mem{ps:List TF}{i:Nat}(h:i<ps.length):elF ps i∈ps:=by
 rw[elF_get h]
 exact List.getElem_mem h
theorem mem_elF{ps:List TF}{p:TF}(h:p∈ps):∃i,i<ps.length∧elF ps i=p:=by
 obtain⟨i,hi,e⟩:=List.getElem_of_mem h
 exact⟨i,hi,by rw[elF_get hi];exact e⟩
theorem ok_named{n:Int}:okN n=true↔0≤n∧n≤21:=by unfold okN;simp
theorem step_lt{ps:List TF}(h:∀i,i<ps.length→okAt ps i):∀j i,i<j→j<ps.length→(elF ps i).1<(elF ps j).1
 |0,i=>fun a _=>absurd a (by omega)
 |j+1,i=>fun a b=>by
  have s:=(h (j+1) b).2 (by omega)
  simp only[Nat.add_sub_cancel] at s
  by_cases e:i=j
  ·subst e;exact s
  ·have:=step_lt h j i (by omega) (by omega)
   omega
theorem asc_of{room:Int}{ps:List TF}(h:OkD room ps):Asc ps∧Named ps:=by
 refine⟨?_,fun p hp=>?_⟩
 ·unfold Asc
  rw[List.pairwise_iff_getElem]
  intro i j hi hj l
  have:=step_lt h.2.2.2 j i l hj
  rwa [elF_get hi,elF_get hj] at this
 ·obtain⟨i,hi,rfl⟩:=mem_elF hp
  exact ok_named.1 (h.2.2.2 i hi).1
open Classical in
theorem asc_lt{ps:List TF}(h:Asc ps){i j:Nat}(l:i<j)(hj:j<ps.length):(elF ps i).1<(elF ps j).1:=by
 have:=List.pairwise_iff_getElem.1 h i j (by omega) hj l
 rwa [elF_get (show i<ps.length by omega),elF_get hj]
theorem find_neg{ps:List TF}{nm:Int}(h:findF ps nm<0):∀p∈ps,p.1≠nm:=fun p hp e=>by
 have:0≤findF ps nm:=by
  unfold findF
  have:(ps.findIdx? (fun p=>p.1==nm)).isSome=true:=by
   rw[List.findIdx?_isSome]
   exact List.any_eq_true.2 ⟨p,hp,by simpa using e⟩
  obtain⟨i,hi⟩:=Option.isSome_iff_exists.1 this
  rw[hi]
  simp
 omega
end Pure14
end Go.Proofs.YtagmnociflkhcaaGreatDoor
