/- Lemmas. -/
import Derived.Test.YtppkkmaoaiopaaaGreatQF6
import Derived.Deep.LoopGhost
open Go.ChangeShapes Go.WideShapes Go.ChangeAt Go.RowKit
set_option linter.unusedVariables false
set_option linter.unusedSimpArgs false
set_option maxRecDepth 100000
set_option maxHeartbeats 32000000
namespace Go.Proofs.YtppkkmaoaiopaaaGreat
namespace AccountIPlace
open Pairs Chart
def Cmp(x y r:Int):Prop:=(x<y∧r= -1)∨(y<x∧r=1)∨(x=y∧r=0)
theorem iCompare(x y:Int)(w:World):Calls Tryz.prog 237 #[.int .i64 x,.int .i64 y] w fun e w'=>∃r,Cmp x y r∧e= .returned (.int .i64 r)∧w'=w:=by
 by_cases h1:x<y
 ·go_enter Tryz.func237,Tryz.ntmps237
  go_wp2
  go_ret
  exact⟨-1,.inl ⟨h1,rfl⟩,rfl,rfl⟩
 ·by_cases h2:y<x
  ·go_enter Tryz.func237,Tryz.ntmps237
   go_wp2
   go_ret
   exact⟨1,.inr (.inl ⟨h2,rfl⟩),rfl,rfl⟩
  ·go_enter Tryz.func237,Tryz.ntmps237
   go_wp2
   go_ret
   exact⟨0,.inr (.inr ⟨by omega,rfl⟩),rfl,rfl⟩
theorem iCmp(x y no:Int)(w:World):Calls Tryz.prog 260 #[.agg #[.int .i64 x,.int .i64 y],.int .i64 no] w fun e w'=>∃r,Cmp x no r∧e= .returned (.int .i64 r)∧Below w.heap.size w w':=by
 have hfd:∀w:World,(Instr.field 248 (.agg #[.int .i64 x,.int .i64 y]) 0).run Tryz.prog w= .ok (.int .i64 x) w:=fun _=>by kernel_rfl
 go_enter Tryz.func260,Tryz.ntmps260
 go_wp2_with fail
 refine(iCompare x no _).mono ?_
 rintro e w1 ⟨r,hr,rfl,rfl⟩
 go_wp2
 go_ret
 exact⟨r,hr,rfl,by repeat(first|exact Below.refl _ _|refine Below.alloc ?_ (by simp;try omega) _)⟩
theorem iSearch(w:World)(g n cap:Nat)(ps:List (Int×Int))(no:Int)(hl:ps.length=n)(h20:n≤1048576)(hg:g<w.heap.size)(h:At w g ps)(asc:Hid (∀j i,i<j→j<ps.length→(el ps i).1<(el ps j).1)):
  Calls Tryz.prog 259 #[.slice (some ⟨g,0,none⟩) n cap,.int .i64 no,.func (.func 260) #[] #[]] w fun e w'=>∃c f,IsPlace ps no c∧StandsAt f ps no c∧e= .returned (.tuple #[.int .i64 (c:Nat),.bool f])∧Below w.heap.size w w':=by
 go_enter Tryz.func259,Tryz.ntmps259
 go_wp2
 go_loopw [9,10] (fun p q wr=>∃(lo hi:Nat),lo≤hi∧hi≤n∧p= .int .i64 lo∧q= .int .i64 hi∧At wr g ps∧Below w.heap.size w wr∧Hid ((∀t,t<lo→(el ps t).1<no)∧∀t,hi≤t→t<n→no≤(el ps t).1)) (fun p q _=>(intOf q).toNat-(intOf p).toNat)
 case atStart=>exact⟨0,n,by omega,by omega,rfl,rfl,h,Below.refl _ _,zh ⟨fun t ht=>by omega,fun t h1 h2=>by omega⟩⟩
 case round=>
  clear h
  obtain⟨lo,hi,hlh,hin,rfl,rfl,h,hb,HI⟩:=hrel
  have sz:=hb.size
  by_cases t:lo<hi
  ·obtain⟨m,hm⟩:∃m,m=(lo+hi)/2:=⟨_,rfl⟩
   obtain⟨e1,e2⟩:=h m (by omega)
   have HA:=zh h
   have HB:=zh hb
   clear h hb
   have LOW:=zh (show(el ps m).1<no→∀t,t<m+1→(el ps t).1<no from fun hx t ht=>by
    by_cases e:t=m
    ·subst e;exact hx
    ·have:=(zu asc) m t (by omega) (by omega)
     omega)
   have HIGH:=zh (show ¬(el ps m).1<no→∀t,m≤t→t<n→no≤(el ps t).1 from fun hx t h1 h2=>by
    by_cases e:t=m
    ·subst e;omega
    ·have:=(zu asc) t m (by omega) (by omega)
     omega)
   generalize (el ps m).1=x at *
   generalize (el ps m).2=y at *
   have hm':(((lo:Int)+(hi:Int))/2)=((m:Nat):Int):=by omega
   have M1:lo≤m:=by omega
   have M2:m<hi:=by omega
   have HM:=zh hm
   clear hm
   go_wp2_with fail
   refine(iCmp x y no _).mono ?_
   rintro e w1 ⟨r,hr,rfl,b1⟩
   have bb:=zh (next (zu HB) b1)
   have aa:=zh ((zu HA).below b1 (by omega))
   by_cases lt:x<no
   ·obtain rfl:r= -1:=by rcases hr with⟨_,e⟩|⟨h1,_⟩|⟨h1,_⟩<;>omega
    have L:=zh ((zu LOW) lt)
    clear hr b1 LOW HIGH
    go_wp2
    go_roundw
    case rel=>exact⟨m+1,hi,by omega,hin,by go_num,rfl,zu aa,zu bb,zh ⟨zu L,(zu HI).2⟩⟩
    case measure=>simp[intOf];omega
   ·have nr:¬r<0:=by rcases hr with⟨h1,_⟩|⟨_,e⟩|⟨_,e⟩<;>omega
    have L:=zh ((zu HIGH) (by omega))
    clear hr b1 LOW HIGH
    go_wp2
    go_roundw
    case rel=>exact⟨lo,m,by omega,by omega,rfl,by go_num,zu aa,zu bb,zh ⟨(zu HI).1,zu L⟩⟩
    case measure=>simp[intOf];omega
  ·obtain rfl:lo=hi:=by omega
   have PL:=zh (show IsPlace ps no lo from⟨by omega,(zu HI).1,fun hx=>(zu HI).2 lo (Nat.le_refl _) (by omega)⟩)
   by_cases lt:lo<n
   ·obtain⟨e1,e2⟩:=h lo (by omega)
    have HA:=zh h
    have HB:=zh hb
    clear h hb
    have FT:=zh (show(el ps lo).1=no→StandsAt true ps no lo from fun z=>⟨fun _=>⟨by omega,z⟩,fun _=>rfl⟩)
    have FN:=zh (show ¬(el ps lo).1=no→StandsAt false ps no lo from fun z=>⟨fun e=>Bool.noConfusion e,fun e=>absurd e.2 z⟩)
    generalize (el ps lo).1=x at *
    generalize (el ps lo).2=y at *
    go_wp2_with fail
    refine(iCmp x y no _).mono ?_
    rintro e w1 ⟨r,hr,rfl,b1⟩
    have bb:=zh (next (zu HB) b1)
    by_cases eq:x=no
    ·obtain rfl:r=0:=by rcases hr with⟨_,e⟩|⟨h1,_⟩|⟨_,e⟩<;>omega
     have FF:=(zu FT) eq
     clear hr b1 FT FN eq
     go_wp2
     go_ret2
     exact⟨lo,true,zu PL,FF,rfl,zu bb⟩
    ·have nr:(r==0)=false:=by rw[beq_eq_false_iff_ne];rcases hr with⟨_,e⟩|⟨h1,_⟩|⟨_,e⟩<;>omega
     have FF:=(zu FN) eq
     clear hr b1 FT FN eq
     go_wp2
     go_ret2
     exact⟨lo,false,zu PL,FF,rfl,zu bb⟩
   ·have HB:=zh hb
    clear h hb
    go_wp2
    go_ret2
    exact⟨lo,false,zu PL,⟨fun e=>Bool.noConfusion e,fun e=>absurd e.1 (by omega)⟩,rfl,zu HB⟩
theorem iPlace(w:World)(g n cap:Nat)(ps:List (Int×Int))(no:Int)(hl:ps.length=n)(h20:n≤1048576)(hg:g<w.heap.size)(h:At w g ps)(asc:Hid (∀j i,i<j→j<ps.length→(el ps i).1<(el ps j).1)):
  Calls Tryz.prog 247 #[.agg #[.slice (some ⟨g,0,none⟩) n cap,.int .i64 20,.int .i64 4],.int .i64 no] w fun e w'=>∃c f,IsPlace ps no c∧StandsAt f ps no c∧e= .returned (.tuple #[.int .i64 (c:Nat),.bool f])∧Below w.heap.size w w':=by
 have b0:Below w.heap.size w (w.alloc (.cells #[.slice (some ⟨g,0,none⟩) n cap,.int .i64 20,.int .i64 4] 231)):=(Below.refl _ _).alloc (Nat.le_refl _) _
 have H:=zh (h.below b0 hg)
 have HB:=zh b0
 clear h b0
 go_enter Tryz.func247,Tryz.ntmps247
 go_wp2_with fail
 refine(iSearch _ g n cap ps no hl h20 (by simp;omega) (zu H) asc).mono ?_
 rintro e w1 ⟨c,f,hc,hf,rfl,b1⟩
 have bb:=zh (next (zu HB) b1)
 have PC:=zh hc
 have PF:=zh hf
 clear hc hf b1
 go_wp2
 go_ret2
 exact⟨c,f,zu PC,zu PF,rfl,zu bb⟩
end AccountIPlace
namespace AccountIKind
open Pairs Chart AccountIOk AccountIPlace
theorem iChart(w:World)(g n cap:Nat):Calls Tryz.prog 208 #[.slice (some ⟨g,0,none⟩) n cap] w fun e w'=>e= .returned (.agg #[.slice (some ⟨g,0,none⟩) n cap,.int .i64 20,.int .i64 4])∧Below w.heap.size w w':=by
 go_enter Tryz.func208,Tryz.ntmps208
 go_wp2
 refine bodyPost_ret (v:= .agg #[.slice (some ⟨g,0,none⟩) n cap,.int .i64 20,.int .i64 4]) (by simp[results,Tryz.results208,go_sem]) rfl ⟨rfl,?_⟩
 repeat(first|exact Below.refl _ _|refine Below.alloc ?_ (by simp;try omega) _)
theorem iKindOf(w:World)(g n cap:Nat)(ps:List (Int×Int))(no:Int)(hl:ps.length=n)(h20:n≤1048576)(hg:g<w.heap.size)(h:At w g ps):
  Calls Tryz.prog 241 #[.agg #[.slice (some ⟨g,0,none⟩) n cap,.int .i64 20,.int .i64 4],.int .i64 no] w fun e w'=>∃r,IsKind 20 4 ps no r∧e= .returned (.int .i64 r)∧Below w.heap.size w w':=by
 obtain⟨ok,OK⟩:=says_of 20 4 ps
 have b0:Below w.heap.size w (w.alloc (.cells #[.slice (some ⟨g,0,none⟩) n cap,.int .i64 20,.int .i64 4] 231)):=(Below.refl _ _).alloc (Nat.le_refl _) _
 have H:=zh (h.below b0 hg)
 have HB:=zh b0
 clear h b0
 cases ok
 ·go_enter Tryz.func241,Tryz.ntmps241
  go_wp2_with fail
  refine(iOk _ g n cap ps false hl h20 (by simp;omega) (zu H) OK).mono ?_
  rintro e w1 ⟨rfl,b1⟩
  have bb:=zh (next (zu HB) b1)
  clear b1
  go_wp2
  go_ret
  exact⟨0,.inr ⟨.inl OK.no,rfl⟩,rfl,zu bb⟩
 ·go_enter Tryz.func241,Tryz.ntmps241
  go_wp2_with fail
  refine(iOk _ g n cap ps true hl h20 (by simp;omega) (zu H) OK).mono ?_
  rintro e w1 ⟨rfl,b1⟩
  have A1:=zh ((zu H).below b1 (by simp;omega))
  have B1:=zh (next (zu HB) b1)
  have s1:=b1.size
  have c0:w1.cell? ⟨w.heap.size,0,none⟩=some (.slice (some ⟨g,0,none⟩) n cap):=(b1.cell (p:=⟨w.heap.size,0,none⟩) (by simp)).trans (by simp)
  have c1:w1.cell? ⟨w.heap.size,1,none⟩=some (.int .i64 20):=(b1.cell (p:=⟨w.heap.size,1,none⟩) (by simp)).trans (by simp)
  have c2:w1.cell? ⟨w.heap.size,2,none⟩=some (.int .i64 4):=(b1.cell (p:=⟨w.heap.size,2,none⟩) (by simp)).trans (by simp)
  simp only[World.size_alloc] at s1
  clear b1
  go_wp2_with fail
  refine(iPlace _ g n cap ps no hl h20 (by omega) (zu A1) (zh OK.yes.asc)).mono ?_
  rintro e w2 ⟨c,f,hc,hf,rfl,b2⟩
  have A2:=zh ((zu A1).below b2 (by omega))
  have B2:=zh (next (zu B1) b2)
  have d0:=(b2.cell (p:=⟨w.heap.size,0,none⟩) (by show w.heap.size<_;omega)).trans c0
  clear b2 c0 c1 c2
  cases f
  ·have K0:=zh (show IsKind 20 4 ps no 0 from .inr ⟨.inr (fun i hi e=>hf.no (by
    have:=hc.1
    rcases Nat.lt_trichotomy i c with l|l|l
    ·have:=hc.2.1 i l;omega
    ·subst l;exact⟨hi,e⟩
    ·have h1:=hc.2.2 (by omega)
     have:=OK.yes.asc i c l hi
     omega)),rfl⟩)
   clear hc hf
   go_wp2
   go_ret
   exact⟨0,zu K0,rfl,zu B2⟩
  ·obtain⟨lt,eq⟩:=hf.yes
   have K0:=zh (show IsKind 20 4 ps no (el ps c).2 from .inl ⟨OK.yes,c,lt,eq,rfl⟩)
   obtain⟨e1,e2⟩:=(zu A2) c lt
   rw[hl] at lt
   clear hc hf eq
   generalize (el ps c).1=x at *
   generalize (el ps c).2=y at *
   have hfd:∀w:World,(Instr.field 248 (.agg #[.int .i64 x,.int .i64 y]) 1).run Tryz.prog w= .ok (.int .i64 y) w:=fun _=>by kernel_rfl
   go_wp2
   go_ret
   exact⟨y,zu K0,rfl,zu B2⟩
theorem iKind(w:World)(g n cap:Nat)(ps:List (Int×Int))(no:Int)(hl:ps.length=n)(h20:n≤1048576)(hg:g<w.heap.size)(h:At w g ps):
  Calls Tryz.prog 220 #[.slice (some ⟨g,0,none⟩) n cap,.int .i64 no] w fun e w'=>∃r,IsKind 20 4 ps no r∧e= .returned (.int .i64 r)∧Below w.heap.size w w':=by
 have H:=zh h
 clear h
 go_enter Tryz.func220,Tryz.ntmps220
 go_wp2_with fail
 refine(iChart _ g n cap).mono ?_
 rintro e w1 ⟨rfl,b1⟩
 have A1:=zh ((zu H).below b1 hg)
 have B1:=zh b1
 have s1:=b1.size
 clear b1
 go_wp2_with fail
 refine(iKindOf _ g n cap ps no hl h20 (by omega) (zu A1)).mono ?_
 rintro e w2 ⟨r,hr,rfl,b2⟩
 have B2:=zh (next (zu B1) b2)
 have K:=zh hr
 clear b2 hr
 go_wp2
 go_ret
 exact⟨r,zu K,rfl,zu B2⟩
theorem iOks(w:World)(g n cap:Nat)(ps:List (Int×Int))(ok:Bool)(hl:ps.length=n)(h20:n≤1048576)(hg:g<w.heap.size)(h:At w g ps)(hok:Says ok 20 4 ps):
  Calls Tryz.prog 178 #[.slice (some ⟨g,0,none⟩) n cap] w fun e w'=>e= .returned (.bool ok)∧Below w.heap.size w w':=by
 have H:=zh h
 clear h
 go_enter Tryz.func178,Tryz.ntmps178
 go_wp2_with fail
 refine(iChart _ g n cap).mono ?_
 rintro e w1 ⟨rfl,b1⟩
 have A1:=zh ((zu H).below b1 hg)
 have B1:=zh b1
 have s1:=b1.size
 clear b1
 go_wp2_with fail
 refine(iOk _ g n cap ps ok hl h20 (by omega) (zu A1) hok).mono ?_
 rintro e w2 ⟨rfl,b2⟩
 have B2:=zh (next (zu B1) b2)
 clear b2
 go_wp2
 go_ret
 exact⟨rfl,zu B2⟩
end AccountIKind
namespace InstrIPlace
open Pairs Chart
def Cmp(x y r:Int):Prop:=(x<y∧r= -1)∨(y<x∧r=1)∨(x=y∧r=0)
theorem iCompare(x y:Int)(w:World):Calls Tryz.prog 237 #[.int .i64 x,.int .i64 y] w fun e w'=>∃r,Cmp x y r∧e= .returned (.int .i64 r)∧w'=w:=by
 by_cases h1:x<y
 ·go_enter Tryz.func237,Tryz.ntmps237
  go_wp2
  go_ret
  exact⟨-1,.inl ⟨h1,rfl⟩,rfl,rfl⟩
 ·by_cases h2:y<x
  ·go_enter Tryz.func237,Tryz.ntmps237
   go_wp2
   go_ret
   exact⟨1,.inr (.inl ⟨h2,rfl⟩),rfl,rfl⟩
  ·go_enter Tryz.func237,Tryz.ntmps237
   go_wp2
   go_ret
   exact⟨0,.inr (.inr ⟨by omega,rfl⟩),rfl,rfl⟩
theorem iCmp(x y no:Int)(w:World):Calls Tryz.prog 262 #[.agg #[.int .i64 x,.int .i64 y],.int .i64 no] w fun e w'=>∃r,Cmp x no r∧e= .returned (.int .i64 r)∧Below w.heap.size w w':=by
 have hfd:∀w:World,(Instr.field 248 (.agg #[.int .i64 x,.int .i64 y]) 0).run Tryz.prog w= .ok (.int .i64 x) w:=fun _=>by kernel_rfl
 go_enter Tryz.func262,Tryz.ntmps262
 go_wp2_with fail
 refine(iCompare x no _).mono ?_
 rintro e w1 ⟨r,hr,rfl,rfl⟩
 go_wp2
 go_ret
 exact⟨r,hr,rfl,by repeat(first|exact Below.refl _ _|refine Below.alloc ?_ (by simp;try omega) _)⟩
theorem iSearch(w:World)(g n cap:Nat)(ps:List (Int×Int))(no:Int)(hl:ps.length=n)(h20:n≤1048576)(hg:g<w.heap.size)(h:At w g ps)(asc:Hid (∀j i,i<j→j<ps.length→(el ps i).1<(el ps j).1)):
  Calls Tryz.prog 261 #[.slice (some ⟨g,0,none⟩) n cap,.int .i64 no,.func (.func 262) #[] #[]] w fun e w'=>∃c f,IsPlace ps no c∧StandsAt f ps no c∧e= .returned (.tuple #[.int .i64 (c:Nat),.bool f])∧Below w.heap.size w w':=by
 go_enter Tryz.func261,Tryz.ntmps261
 go_wp2
 go_loopw [9,10] (fun p q wr=>∃(lo hi:Nat),lo≤hi∧hi≤n∧p= .int .i64 lo∧q= .int .i64 hi∧At wr g ps∧Below w.heap.size w wr∧Hid ((∀t,t<lo→(el ps t).1<no)∧∀t,hi≤t→t<n→no≤(el ps t).1)) (fun p q _=>(intOf q).toNat-(intOf p).toNat)
 case atStart=>exact⟨0,n,by omega,by omega,rfl,rfl,h,Below.refl _ _,zh ⟨fun t ht=>by omega,fun t h1 h2=>by omega⟩⟩
 case round=>
  clear h
  obtain⟨lo,hi,hlh,hin,rfl,rfl,h,hb,HI⟩:=hrel
  have sz:=hb.size
  by_cases t:lo<hi
  ·obtain⟨m,hm⟩:∃m,m=(lo+hi)/2:=⟨_,rfl⟩
   obtain⟨e1,e2⟩:=h m (by omega)
   have HA:=zh h
   have HB:=zh hb
   clear h hb
   have LOW:=zh (show(el ps m).1<no→∀t,t<m+1→(el ps t).1<no from fun hx t ht=>by
    by_cases e:t=m
    ·subst e;exact hx
    ·have:=(zu asc) m t (by omega) (by omega)
     omega)
   have HIGH:=zh (show ¬(el ps m).1<no→∀t,m≤t→t<n→no≤(el ps t).1 from fun hx t h1 h2=>by
    by_cases e:t=m
    ·subst e;omega
    ·have:=(zu asc) t m (by omega) (by omega)
     omega)
   generalize (el ps m).1=x at *
   generalize (el ps m).2=y at *
   have hm':(((lo:Int)+(hi:Int))/2)=((m:Nat):Int):=by omega
   have M1:lo≤m:=by omega
   have M2:m<hi:=by omega
   have HM:=zh hm
   clear hm
   go_wp2_with fail
   refine(iCmp x y no _).mono ?_
   rintro e w1 ⟨r,hr,rfl,b1⟩
   have bb:=zh (next (zu HB) b1)
   have aa:=zh ((zu HA).below b1 (by omega))
   by_cases lt:x<no
   ·obtain rfl:r= -1:=by rcases hr with⟨_,e⟩|⟨h1,_⟩|⟨h1,_⟩<;>omega
    have L:=zh ((zu LOW) lt)
    clear hr b1 LOW HIGH
    go_wp2
    go_roundw
    case rel=>exact⟨m+1,hi,by omega,hin,by go_num,rfl,zu aa,zu bb,zh ⟨zu L,(zu HI).2⟩⟩
    case measure=>simp[intOf];omega
   ·have nr:¬r<0:=by rcases hr with⟨h1,_⟩|⟨_,e⟩|⟨_,e⟩<;>omega
    have L:=zh ((zu HIGH) (by omega))
    clear hr b1 LOW HIGH
    go_wp2
    go_roundw
    case rel=>exact⟨lo,m,by omega,by omega,rfl,by go_num,zu aa,zu bb,zh ⟨(zu HI).1,zu L⟩⟩
    case measure=>simp[intOf];omega
  ·obtain rfl:lo=hi:=by omega
   have PL:=zh (show IsPlace ps no lo from⟨by omega,(zu HI).1,fun hx=>(zu HI).2 lo (Nat.le_refl _) (by omega)⟩)
   by_cases lt:lo<n
   ·obtain⟨e1,e2⟩:=h lo (by omega)
    have HA:=zh h
    have HB:=zh hb
    clear h hb
    have FT:=zh (show(el ps lo).1=no→StandsAt true ps no lo from fun z=>⟨fun _=>⟨by omega,z⟩,fun _=>rfl⟩)
    have FN:=zh (show ¬(el ps lo).1=no→StandsAt false ps no lo from fun z=>⟨fun e=>Bool.noConfusion e,fun e=>absurd e.2 z⟩)
    generalize (el ps lo).1=x at *
    generalize (el ps lo).2=y at *
    go_wp2_with fail
    refine(iCmp x y no _).mono ?_
    rintro e w1 ⟨r,hr,rfl,b1⟩
    have bb:=zh (next (zu HB) b1)
    by_cases eq:x=no
    ·obtain rfl:r=0:=by rcases hr with⟨_,e⟩|⟨h1,_⟩|⟨_,e⟩<;>omega
     have FF:=(zu FT) eq
     clear hr b1 FT FN eq
     go_wp2
     go_ret2
     exact⟨lo,true,zu PL,FF,rfl,zu bb⟩
    ·have nr:(r==0)=false:=by rw[beq_eq_false_iff_ne];rcases hr with⟨_,e⟩|⟨h1,_⟩|⟨_,e⟩<;>omega
     have FF:=(zu FN) eq
     clear hr b1 FT FN eq
     go_wp2
     go_ret2
     exact⟨lo,false,zu PL,FF,rfl,zu bb⟩
   ·have HB:=zh hb
    clear h hb
    go_wp2
    go_ret2
    exact⟨lo,false,zu PL,⟨fun e=>Bool.noConfusion e,fun e=>absurd e.1 (by omega)⟩,rfl,zu HB⟩
theorem iPlace(w:World)(g n cap:Nat)(ps:List (Int×Int))(no:Int)(hl:ps.length=n)(h20:n≤1048576)(hg:g<w.heap.size)(h:At w g ps)(asc:Hid (∀j i,i<j→j<ps.length→(el ps i).1<(el ps j).1)):
  Calls Tryz.prog 248 #[.agg #[.slice (some ⟨g,0,none⟩) n cap,.int .i64 8,.int .i64 2],.int .i64 no] w fun e w'=>∃c f,IsPlace ps no c∧StandsAt f ps no c∧e= .returned (.tuple #[.int .i64 (c:Nat),.bool f])∧Below w.heap.size w w':=by
 have b0:Below w.heap.size w (w.alloc (.cells #[.slice (some ⟨g,0,none⟩) n cap,.int .i64 8,.int .i64 2] 234)):=(Below.refl _ _).alloc (Nat.le_refl _) _
 have H:=zh (h.below b0 hg)
 have HB:=zh b0
 clear h b0
 go_enter Tryz.func248,Tryz.ntmps248
 go_wp2_with fail
 refine(iSearch _ g n cap ps no hl h20 (by simp;omega) (zu H) asc).mono ?_
 rintro e w1 ⟨c,f,hc,hf,rfl,b1⟩
 have bb:=zh (next (zu HB) b1)
 have PC:=zh hc
 have PF:=zh hf
 clear hc hf b1
 go_wp2
 go_ret2
 exact⟨c,f,zu PC,zu PF,rfl,zu bb⟩
end InstrIPlace
namespace InstrIKind
open Pairs Chart InstrIOk InstrIPlace
theorem iChart(w:World)(g n cap:Nat):Calls Tryz.prog 210 #[.slice (some ⟨g,0,none⟩) n cap] w fun e w'=>e= .returned (.agg #[.slice (some ⟨g,0,none⟩) n cap,.int .i64 8,.int .i64 2])∧Below w.heap.size w w':=by
 go_enter Tryz.func210,Tryz.ntmps210
 go_wp2
 refine bodyPost_ret (v:= .agg #[.slice (some ⟨g,0,none⟩) n cap,.int .i64 8,.int .i64 2]) (by simp[results,Tryz.results210,go_sem]) rfl ⟨rfl,?_⟩
 repeat(first|exact Below.refl _ _|refine Below.alloc ?_ (by simp;try omega) _)
theorem iKindOf(w:World)(g n cap:Nat)(ps:List (Int×Int))(no:Int)(hl:ps.length=n)(h20:n≤1048576)(hg:g<w.heap.size)(h:At w g ps):
  Calls Tryz.prog 242 #[.agg #[.slice (some ⟨g,0,none⟩) n cap,.int .i64 8,.int .i64 2],.int .i64 no] w fun e w'=>∃r,IsKind 8 2 ps no r∧e= .returned (.int .i64 r)∧Below w.heap.size w w':=by
 obtain⟨ok,OK⟩:=says_of 8 2 ps
 have b0:Below w.heap.size w (w.alloc (.cells #[.slice (some ⟨g,0,none⟩) n cap,.int .i64 8,.int .i64 2] 234)):=(Below.refl _ _).alloc (Nat.le_refl _) _
 have H:=zh (h.below b0 hg)
 have HB:=zh b0
 clear h b0
 cases ok
 ·go_enter Tryz.func242,Tryz.ntmps242
  go_wp2_with fail
  refine(iOk _ g n cap ps false hl h20 (by simp;omega) (zu H) OK).mono ?_
  rintro e w1 ⟨rfl,b1⟩
  have bb:=zh (next (zu HB) b1)
  clear b1
  go_wp2
  go_ret
  exact⟨0,.inr ⟨.inl OK.no,rfl⟩,rfl,zu bb⟩
 ·go_enter Tryz.func242,Tryz.ntmps242
  go_wp2_with fail
  refine(iOk _ g n cap ps true hl h20 (by simp;omega) (zu H) OK).mono ?_
  rintro e w1 ⟨rfl,b1⟩
  have A1:=zh ((zu H).below b1 (by simp;omega))
  have B1:=zh (next (zu HB) b1)
  have s1:=b1.size
  have c0:w1.cell? ⟨w.heap.size,0,none⟩=some (.slice (some ⟨g,0,none⟩) n cap):=(b1.cell (p:=⟨w.heap.size,0,none⟩) (by simp)).trans (by simp)
  have c1:w1.cell? ⟨w.heap.size,1,none⟩=some (.int .i64 8):=(b1.cell (p:=⟨w.heap.size,1,none⟩) (by simp)).trans (by simp)
  have c2:w1.cell? ⟨w.heap.size,2,none⟩=some (.int .i64 2):=(b1.cell (p:=⟨w.heap.size,2,none⟩) (by simp)).trans (by simp)
  simp only[World.size_alloc] at s1
  clear b1
  go_wp2_with fail
  refine(iPlace _ g n cap ps no hl h20 (by omega) (zu A1) (zh OK.yes.asc)).mono ?_
  rintro e w2 ⟨c,f,hc,hf,rfl,b2⟩
  have A2:=zh ((zu A1).below b2 (by omega))
  have B2:=zh (next (zu B1) b2)
  have d0:=(b2.cell (p:=⟨w.heap.size,0,none⟩) (by show w.heap.size<_;omega)).trans c0
  clear b2 c0 c1 c2
  cases f
  ·have K0:=zh (show IsKind 8 2 ps no 0 from .inr ⟨.inr (fun i hi e=>hf.no (by
    have:=hc.1
    rcases Nat.lt_trichotomy i c with l|l|l
    ·have:=hc.2.1 i l;omega
    ·subst l;exact⟨hi,e⟩
    ·have h1:=hc.2.2 (by omega)
     have:=OK.yes.asc i c l hi
     omega)),rfl⟩)
   clear hc hf
   go_wp2
   go_ret
   exact⟨0,zu K0,rfl,zu B2⟩
  ·obtain⟨lt,eq⟩:=hf.yes
   have K0:=zh (show IsKind 8 2 ps no (el ps c).2 from .inl ⟨OK.yes,c,lt,eq,rfl⟩)
   obtain⟨e1,e2⟩:=(zu A2) c lt
   rw[hl] at lt
   clear hc hf eq
   generalize (el ps c).1=x at *
   generalize (el ps c).2=y at *
   have hfd:∀w:World,(Instr.field 248 (.agg #[.int .i64 x,.int .i64 y]) 1).run Tryz.prog w= .ok (.int .i64 y) w:=fun _=>by kernel_rfl
   go_wp2
   go_ret
   exact⟨y,zu K0,rfl,zu B2⟩
theorem iKind(w:World)(g n cap:Nat)(ps:List (Int×Int))(no:Int)(hl:ps.length=n)(h20:n≤1048576)(hg:g<w.heap.size)(h:At w g ps):
  Calls Tryz.prog 222 #[.slice (some ⟨g,0,none⟩) n cap,.int .i64 no] w fun e w'=>∃r,IsKind 8 2 ps no r∧e= .returned (.int .i64 r)∧Below w.heap.size w w':=by
 have H:=zh h
 clear h
 go_enter Tryz.func222,Tryz.ntmps222
 go_wp2_with fail
 refine(iChart _ g n cap).mono ?_
 rintro e w1 ⟨rfl,b1⟩
 have A1:=zh ((zu H).below b1 hg)
 have B1:=zh b1
 have s1:=b1.size
 clear b1
 go_wp2_with fail
 refine(iKindOf _ g n cap ps no hl h20 (by omega) (zu A1)).mono ?_
 rintro e w2 ⟨r,hr,rfl,b2⟩
 have B2:=zh (next (zu B1) b2)
 have K:=zh hr
 clear b2 hr
 go_wp2
 go_ret
 exact⟨r,zu K,rfl,zu B2⟩
theorem iOks(w:World)(g n cap:Nat)(ps:List (Int×Int))(ok:Bool)(hl:ps.length=n)(h20:n≤1048576)(hg:g<w.heap.size)(h:At w g ps)(hok:Says ok 8 2 ps):
  Calls Tryz.prog 179 #[.slice (some ⟨g,0,none⟩) n cap] w fun e w'=>e= .returned (.bool ok)∧Below w.heap.size w w':=by
 have H:=zh h
 clear h
 go_enter Tryz.func179,Tryz.ntmps179
 go_wp2_with fail
 refine(iChart _ g n cap).mono ?_
 rintro e w1 ⟨rfl,b1⟩
 have A1:=zh ((zu H).below b1 hg)
 have B1:=zh b1
 have s1:=b1.size
 clear b1
 go_wp2_with fail
 refine(iOk _ g n cap ps ok hl h20 (by omega) (zu A1) hok).mono ?_
 rintro e w2 ⟨rfl,b2⟩
 have B2:=zh (next (zu B1) b2)
 clear b2
 go_wp2
 go_ret
 exact⟨rfl,zu B2⟩
end InstrIKind
namespace IRead
open BMem Bks
open Lots (Says says_of NoOk)
theorem beq_of{t:Bool}{r k:Int}(h:Says t (r=k)):(r==k)=t:=by
 cases t
 ·have:=h.no
  simpa using this
 ·have:=h.yes
  simpa using this
theorem iHolder(w:World)(x:Bx)(no:Int)(t:Bool)(h:Rd w x)(hr:Chart.Right 20 4 x.b.ac)(ht:Says t (kindOf x.b.ac no=1)):
  Calls Tryz.prog 185 #[.agg #[.slice (some ⟨x.ga,0,none⟩) x.b.ac.length x.ca,.slice (some ⟨x.gi,0,none⟩) x.b.ic.length x.ci,.slice (some ⟨x.gb,0,none⟩) x.b.bs.length x.cb,.slice (some ⟨x.gl,0,none⟩) x.b.ls.length x.cl,.slice (some ⟨x.gt,0,none⟩) x.b.ts.length x.ct,.int .i64 x.b.lot],.int .i64 no] w fun e w'=>e= .returned (.bool t)∧Below w.heap.size w w':=by
 have H:=zh h
 have R:=zh hr
 have T:=zh ht
 have na:=h.na
 have la:=h.la
 clear h hr ht
 go_enter Tryz.func185,Tryz.ntmps185
 go_wp2_with fail
 refine(AccountIKind.iKind _ x.ga _ x.ca x.b.ac no rfl na (by simp;omega) ((zu H).alloc _).ra).mono ?_
 rintro e w1 ⟨r,hk,rfl,b1⟩
 have hd:(r==1)=t:=beq_of (by rw[kind_is (zu R) hk];exact zu T)
 have B1:=zh (((Below.refl w.heap.size w).alloc (Nat.le_refl _) _).trans (b1.mono (by simp)))
 clear b1 hk
 go_wp2
 go_ret
 exact⟨rfl,zu B1⟩
theorem iPaper(w:World)(x:Bx)(no:Int)(t:Bool)(h:Rd w x)(hr:Chart.Right 8 2 x.b.ic)(ht:Says t (kindOf x.b.ic no=2)):
  Calls Tryz.prog 187 #[.agg #[.slice (some ⟨x.ga,0,none⟩) x.b.ac.length x.ca,.slice (some ⟨x.gi,0,none⟩) x.b.ic.length x.ci,.slice (some ⟨x.gb,0,none⟩) x.b.bs.length x.cb,.slice (some ⟨x.gl,0,none⟩) x.b.ls.length x.cl,.slice (some ⟨x.gt,0,none⟩) x.b.ts.length x.ct,.int .i64 x.b.lot],.int .i64 no] w fun e w'=>e= .returned (.bool t)∧Below w.heap.size w w':=by
 have H:=zh h
 have R:=zh hr
 have T:=zh ht
 have na:=h.ni
 have la:=h.li
 clear h hr ht
 go_enter Tryz.func187,Tryz.ntmps187
 go_wp2_with fail
 refine(InstrIKind.iKind _ x.gi _ x.ci x.b.ic no rfl na (by simp;omega) ((zu H).alloc _).ri).mono ?_
 rintro e w1 ⟨r,hk,rfl,b1⟩
 have hd:(r==2)=t:=beq_of (by rw[kind_is (zu R) hk];exact zu T)
 have B1:=zh (((Below.refl w.heap.size w).alloc (Nat.le_refl _) _).trans (b1.mono (by simp)))
 clear b1 hk
 go_wp2
 go_ret
 exact⟨rfl,zu B1⟩
theorem iCash(w:World)(x:Bx)(no:Int)(t:Bool)(h:Rd w x)(hr:Chart.Right 8 2 x.b.ic)(ht:Says t (kindOf x.b.ic no=1)):
  Calls Tryz.prog 227 #[.agg #[.slice (some ⟨x.ga,0,none⟩) x.b.ac.length x.ca,.slice (some ⟨x.gi,0,none⟩) x.b.ic.length x.ci,.slice (some ⟨x.gb,0,none⟩) x.b.bs.length x.cb,.slice (some ⟨x.gl,0,none⟩) x.b.ls.length x.cl,.slice (some ⟨x.gt,0,none⟩) x.b.ts.length x.ct,.int .i64 x.b.lot],.int .i64 no] w fun e w'=>e= .returned (.bool t)∧Below w.heap.size w w':=by
 have H:=zh h
 have R:=zh hr
 have T:=zh ht
 have na:=h.ni
 have la:=h.li
 clear h hr ht
 go_enter Tryz.func227,Tryz.ntmps227
 go_wp2_with fail
 refine(InstrIKind.iKind _ x.gi _ x.ci x.b.ic no rfl na (by simp;omega) ((zu H).alloc _).ri).mono ?_
 rintro e w1 ⟨r,hk,rfl,b1⟩
 have hd:(r==1)=t:=beq_of (by rw[kind_is (zu R) hk];exact zu T)
 have B1:=zh (((Below.refl w.heap.size w).alloc (Nat.le_refl _) _).trans (b1.mono (by simp)))
 clear b1 hk
 go_wp2
 go_ret
 exact⟨rfl,zu B1⟩
theorem enters{P:Program}{f:FuncId}{fn:Func}{c:Code}(hf:P.funcs[f]?=some fn)(hn:(fn.name== "runtime.NumGoroutine")=false)(hb:fn.body=some c)(args:Array Value)(w:World):
  (callFunc f args).run P w= .ok (.enter f args) w:=by
 have h1:fn.name≠ "runtime.NumGoroutine" :=by simpa using hn
 simp[callFunc,hf,h1,hb]
def FirstAt(xs:List Int)(p:Int→Bool)(r:Int):Prop:=(r= -1∧∀x∈xs,p x=false)∨(0≤r∧∃x∈xs,p x=true)
theorem iIndexF(w:World)(g n cap K:Nat)(caps:Array Value)(xs:List Int)(p:Int→Bool)(hl:xs.length=n)(h20:n≤1048576)(hg:g<w.heap.size)(h:Ints.At w g xs)
  (hK:∀(args:Array Value) (u:World),(callFunc K args).run Tryz.prog u= .ok (.enter K args) u)(hf:∀(u:World) (y:Int),Below w.heap.size w u→Calls Tryz.prog K (#[.int .i64 y]++caps) u fun e u'=>e= .returned (.bool (p y))∧Below u.heap.size u u'):
  Calls Tryz.prog 240 #[.slice (some ⟨g,0,none⟩) n cap,.func (.func K) #[] caps] w fun e w'=>∃r,FirstAt xs p r∧e= .returned (.int .i64 r)∧Below w.heap.size w w':=by
 have H:=zh h
 have HF:=zh hf
 have HL:=zh hl
 clear h hf hl
 go_enter Tryz.func240,Tryz.ntmps240
 go_wp2_with fail
 go_loopw [8] (fun i wr=>∃(k:Nat),k≤n∧i= .int .i64 k∧(∀j,j<k→p (xs.getD j 0)=false)∧Below w.heap.size w wr) (fun i _=>n-(intOf i).toNat)
 case atStart=>exact⟨0,by omega,rfl,fun j hj=>by omega,Below.refl _ _⟩
 case round=>
  obtain⟨k,hk,rfl,hn,hb⟩:=hrel
  have HB:=zh hb
  have HN:=zh hn
  by_cases t:k<n
  ·have hc:=(hb.cell (p:=⟨g,k,none⟩) hg).trans ((zu H) k (by rw[zu HL];exact t))
   have hM:xs.getD k 0∈xs:=by
    simp[List.getD,zu HL,t]
   have HM:=zh hM
   clear hb hn hM
   generalize hy:xs.getD k 0=y at *
   have HY:=zh hy
   clear hy
   go_wp2_with fail
   refine((zu HF) _ y (zu HB)).mono ?_
   rintro e w1 ⟨rfl,b1⟩
   have B1:=zh (next (zu HB) b1)
   clear b1 hc
   cases hp:p y
   ·go_wp2
    go_roundw
    case rel=>exact⟨k+1,by omega,by go_num,fun j hj=>by
     by_cases e:j=k
     ·subst e;rw[zu HY];exact hp
     ·exact(zu HN) j (by omega),zu B1⟩
    case measure=>simp[intOf];omega
   ·go_wp2
    go_ret
    exact⟨k,.inr ⟨by omega,y,zu HM,hp⟩,rfl,zu B1⟩
  ·clear hb hn
   have hkn:k=n:=by omega
   have E0:=zh (show ∀x∈xs,p x=false from fun x hx=>by
    obtain⟨j,hj,rfl⟩:=List.getElem_of_mem hx
    have:=(zu HN) j (by rw[zu HL] at hj;omega)
    simpa[List.getD,hj] using this)
   clear hkn
   go_wp2
   go_ret
   exact⟨-1,.inl ⟨rfl,zu E0⟩,rfl,zu HB⟩
theorem iContainsF(w:World)(g n cap K:Nat)(caps:Array Value)(xs:List Int)(p:Int→Bool)(b:Bool)(hl:xs.length=n)(h20:n≤1048576)(hg:g<w.heap.size)(h:Ints.At w g xs)
  (hK:∀(args:Array Value) (u:World),(callFunc K args).run Tryz.prog u= .ok (.enter K args) u)(hf:∀(u:World) (y:Int),Below w.heap.size w u→Calls Tryz.prog K (#[.int .i64 y]++caps) u fun e u'=>e= .returned (.bool (p y))∧Below u.heap.size u u')(hb:Says b (∃x∈xs,p x=true)):
  Calls Tryz.prog 218 #[.slice (some ⟨g,0,none⟩) n cap,.func (.func K) #[] caps] w fun e w'=>e= .returned (.bool b)∧Below w.heap.size w w':=by
 have H:=zh h
 have HF:=zh hf
 have HL:=zh hl
 have T:=zh hb
 clear h hf hl hb
 go_enter Tryz.func218,Tryz.ntmps218
 go_wp2_with fail
 refine(iIndexF _ g n cap K caps xs p (zu HL) h20 hg (zu H) hK (zu HF)).mono ?_
 rintro e w1 ⟨r,hr,rfl,b1⟩
 have B1:=zh b1
 have hd:decide (0≤r)=b:=by
  rcases hr with⟨rfl,hr⟩|⟨h0,hr⟩
  ·rw[(zu T).not (fun⟨x,hx,e⟩=>by rw[hr x hx] at e;cases e)];rfl
  ·rw[(zu T).of hr];exact decide_eq_true h0
 clear b1 hr
 go_wp2
 go_ret
 exact⟨rfl,zu B1⟩
end IRead
namespace IHave
open BMem Bks IRead
open Lots (Says says_of NoOk)
def outB(y:Int):Bool:=decide (y<1∨y>1000)
theorem none_of{xs:List Int}{p:Int→Bool}{q:Int→Prop}{b:Bool}(hq:∀y,p y=false↔q y)(hb:Says b (∀x∈xs,q x)):Says (!b) (∃x∈xs,p x=true):=by
 cases b
 ·refine⟨fun _=>?_,fun _=>rfl⟩
  have:=hb.no
  refine Classical.byContradiction fun hn=>this fun x hx=>(hq x).1 ?_
  cases h:p x
  ·rfl
  ·exact absurd ⟨x,hx,h⟩ hn
 ·refine⟨fun e=>Bool.noConfusion e,fun⟨x,hx,e⟩=>?_⟩
  have:=(hq x).2 (hb.yes x hx)
  rw[this] at e
  cases e
theorem out_no(y:Int):outB y=false↔NoOk y:=by
 unfold outB NoOk
 rw[decide_eq_false_iff_not]
 omega
theorem iOut(w:World)(y:Int):Calls Tryz.prog 246 (#[.int .i64 y]++ #[]) w fun e w'=>e= .returned (.bool (outB y))∧Below w.heap.size w w':=by
 show Calls Tryz.prog 246 #[.int .i64 y] w _
 by_cases a:y<1
 ·have hz:outB y=true:=decide_eq_true (.inl a)
  rw[hz]
  go_enter Tryz.func246,Tryz.ntmps246
  go_wp2
  go_ret
  exact⟨rfl,Below.refl _ _⟩
 ·by_cases b:y>1000
  ·have hz:outB y=true:=decide_eq_true (.inr b)
   rw[hz]
   go_enter Tryz.func246,Tryz.ntmps246
   go_wp2
   go_ret
   exact⟨rfl,Below.refl _ _⟩
  ·have hz:outB y=false:=decide_eq_false (fun h=>h.elim a b)
   rw[hz]
   go_enter Tryz.func246,Tryz.ntmps246
   go_wp2
   go_ret
   exact⟨rfl,Below.refl _ _⟩
theorem iNumbers(w:World)(g n cap:Nat)(xs:List Int)(b:Bool)(hl:xs.length=n)(h20:n≤1048576)(hg:g<w.heap.size)(h:Ints.At w g xs)(hb:Says b (∀x∈xs,NoOk x)):
  Calls Tryz.prog 238 #[.slice (some ⟨g,0,none⟩) n cap] w fun e w'=>e= .returned (.bool b)∧Below w.heap.size w w':=by
 have H:=zh h
 have HL:=zh hl
 have T:=zh (none_of out_no hb)
 clear h hl hb
 go_enter Tryz.func238,Tryz.ntmps238
 go_wp2_with fail
 refine(iContainsF _ g n cap 246 #[] xs outB (!b) (zu HL) h20 hg (zu H) (fun _ _=>enters Tryz.func246 (by kernel_rfl) rfl _ _) (fun u y _=>iOut u y) (zu T)).mono ?_
 rintro e w1 ⟨rfl,b1⟩
 have B1:=zh b1
 clear b1
 go_wp2
 go_ret
 exact⟨by simp,zu B1⟩
theorem iFrom(lo x:Int)(b:Bool)(w:World)(hb:Says b (lo≤x∧x≤1000000000000000)):Calls Tryz.prog 239 #[.int .i64 lo,.int .i64 x] w fun e w'=>e= .returned (.bool b)∧w'=w:=by
 by_cases h1:lo≤x
 ·by_cases h2:x≤1000000000000000
  ·obtain rfl:b=true:=hb.of ⟨h1,h2⟩
   clear hb
   go_enter Tryz.func239,Tryz.ntmps239
   go_wp2
   go_ret
   exact⟨rfl,rfl⟩
  ·obtain rfl:b=false:=hb.not (fun h=>h2 h.2)
   clear hb
   go_enter Tryz.func239,Tryz.ntmps239
   go_wp2
   go_ret
   exact⟨rfl,rfl⟩
 ·obtain rfl:b=false:=hb.not (fun h=>h1 h.1)
  clear hb
  go_enter Tryz.func239,Tryz.ntmps239
  go_wp2
  go_ret
  exact⟨rfl,rfl⟩
def noneB(ps:List (Int×Int))(y:Int):Bool:=kindOf ps y==0
theorem none_no(ps:List (Int×Int))(y:Int):noneB ps y=false↔kindOf ps y≠0:=by
 unfold noneB
 simp
theorem iNoneAccount(w:World)(x:Bx)(g:Nat)(y:Int)(h:Rd w x)(hc:w.cell? ⟨g,0,none⟩=some (.slice (some ⟨x.ga,0,none⟩) x.b.ac.length x.ca))(hr:Chart.Right 20 4 x.b.ac):
  Calls Tryz.prog 219 (#[.int .i64 y]++ #[.pointer (some ⟨g,0,none⟩)]) w fun e w'=>e= .returned (.bool (noneB x.b.ac y))∧Below w.heap.size w w':=by
 show Calls Tryz.prog 219 #[.int .i64 y,.pointer (some ⟨g,0,none⟩)] w _
 have H:=zh h
 have R:=zh hr
 have na:=h.na
 have la:=h.la
 clear h hr
 go_enter Tryz.func219,Tryz.ntmps219
 go_wp2_with fail
 refine(AccountIKind.iKind _ x.ga _ x.ca x.b.ac y rfl na la (zu H).ra).mono ?_
 rintro e w1 ⟨r,hk,rfl,b1⟩
 have hd:(r==0)=noneB x.b.ac y:=by rw[kind_is (zu R) hk];rfl
 have B1:=zh b1
 clear b1 hk
 go_wp2
 go_ret
 exact⟨rfl,zu B1⟩
theorem iHaveAccounts(w:World)(x:Bx)(g n cap:Nat)(xs:List Int)(b:Bool)(h:Rd w x)(hr:Chart.Right 20 4 x.b.ac)(hl:xs.length=n)(h20:n≤1048576)(hg:g<w.heap.size)(hx:Ints.At w g xs)(hb:Says b (∀y∈xs,kindOf x.b.ac y≠0)):
  Calls Tryz.prog 183 #[.agg #[.slice (some ⟨x.ga,0,none⟩) x.b.ac.length x.ca,.slice (some ⟨x.gi,0,none⟩) x.b.ic.length x.ci,.slice (some ⟨x.gb,0,none⟩) x.b.bs.length x.cb,.slice (some ⟨x.gl,0,none⟩) x.b.ls.length x.cl,.slice (some ⟨x.gt,0,none⟩) x.b.ts.length x.ct,.int .i64 x.b.lot],.slice (some ⟨g,0,none⟩) n cap] w fun e w'=>e= .returned (.bool b)∧Below w.heap.size w w':=by
 have H:=zh h
 have R:=zh hr
 have X:=zh hx
 have HL:=zh hl
 have T:=zh (none_of (none_no x.b.ac) hb)
 have hmf:∀(fn:Fn) (first cp:Array Value) (w:World),(Instr.makeFunc fn first cp).run Tryz.prog w= .ok (.func fn first cp) w:=fun _ _ _ _=>rfl
 clear h hr hx hl hb
 go_enter Tryz.func183,Tryz.ntmps183
 go_wp2_with fail
 have A1:Below w.heap.size w (w.alloc (.cells #[.slice (some ⟨x.ga,0,none⟩) x.b.ac.length x.ca,.slice (some ⟨x.gi,0,none⟩) x.b.ic.length x.ci,.slice (some ⟨x.gb,0,none⟩) x.b.bs.length x.cb,.slice (some ⟨x.gl,0,none⟩) x.b.ls.length x.cl,.slice (some ⟨x.gt,0,none⟩) x.b.ts.length x.ct,.int .i64 x.b.lot] 44)):=(Below.refl _ _).alloc (Nat.le_refl _) _
 refine(iContainsF _ g n cap 219 #[.pointer (some ⟨w.heap.size,0,none⟩)] xs (noneB x.b.ac) (!b) (zu HL) h20 (by simp;omega) ((zu X).below A1 hg) (fun _ _=>enters Tryz.func219 (by kernel_rfl) rfl _ _) (fun u y hu=>iNoneAccount u x w.heap.size y (((zu H).below A1).below hu) ((hu.cell (p:=⟨w.heap.size,0,none⟩) (by simp)).trans (by simp)) (zu R)) (zu T)).mono ?_
 rintro e w1 ⟨rfl,b1⟩
 have B1:=zh (A1.trans (b1.mono (by simp)))
 clear b1 A1
 go_wp2
 go_ret
 exact⟨by simp,zu B1⟩
theorem iNoneInstr(w:World)(x:Bx)(g:Nat)(y:Int)(h:Rd w x)(hc:w.cell? ⟨g,1,none⟩=some (.slice (some ⟨x.gi,0,none⟩) x.b.ic.length x.ci))(hr:Chart.Right 8 2 x.b.ic):
  Calls Tryz.prog 221 (#[.int .i64 y]++ #[.pointer (some ⟨g,0,none⟩)]) w fun e w'=>e= .returned (.bool (noneB x.b.ic y))∧Below w.heap.size w w':=by
 show Calls Tryz.prog 221 #[.int .i64 y,.pointer (some ⟨g,0,none⟩)] w _
 have H:=zh h
 have R:=zh hr
 have na:=h.ni
 have la:=h.li
 clear h hr
 go_enter Tryz.func221,Tryz.ntmps221
 go_wp2_with fail
 refine(InstrIKind.iKind _ x.gi _ x.ci x.b.ic y rfl na la (zu H).ri).mono ?_
 rintro e w1 ⟨r,hk,rfl,b1⟩
 have hd:(r==0)=noneB x.b.ic y:=by rw[kind_is (zu R) hk];rfl
 have B1:=zh b1
 clear b1 hk
 go_wp2
 go_ret
 exact⟨rfl,zu B1⟩
theorem iHaveInstrs(w:World)(x:Bx)(g n cap:Nat)(xs:List Int)(b:Bool)(h:Rd w x)(hr:Chart.Right 8 2 x.b.ic)(hl:xs.length=n)(h20:n≤1048576)(hg:g<w.heap.size)(hx:Ints.At w g xs)(hb:Says b (∀y∈xs,kindOf x.b.ic y≠0)):
  Calls Tryz.prog 184 #[.agg #[.slice (some ⟨x.ga,0,none⟩) x.b.ac.length x.ca,.slice (some ⟨x.gi,0,none⟩) x.b.ic.length x.ci,.slice (some ⟨x.gb,0,none⟩) x.b.bs.length x.cb,.slice (some ⟨x.gl,0,none⟩) x.b.ls.length x.cl,.slice (some ⟨x.gt,0,none⟩) x.b.ts.length x.ct,.int .i64 x.b.lot],.slice (some ⟨g,0,none⟩) n cap] w fun e w'=>e= .returned (.bool b)∧Below w.heap.size w w':=by
 have H:=zh h
 have R:=zh hr
 have X:=zh hx
 have HL:=zh hl
 have T:=zh (none_of (none_no x.b.ic) hb)
 have hmf:∀(fn:Fn) (first cp:Array Value) (w:World),(Instr.makeFunc fn first cp).run Tryz.prog w= .ok (.func fn first cp) w:=fun _ _ _ _=>rfl
 clear h hr hx hl hb
 go_enter Tryz.func184,Tryz.ntmps184
 go_wp2_with fail
 have A1:Below w.heap.size w (w.alloc (.cells #[.slice (some ⟨x.ga,0,none⟩) x.b.ac.length x.ca,.slice (some ⟨x.gi,0,none⟩) x.b.ic.length x.ci,.slice (some ⟨x.gb,0,none⟩) x.b.bs.length x.cb,.slice (some ⟨x.gl,0,none⟩) x.b.ls.length x.cl,.slice (some ⟨x.gt,0,none⟩) x.b.ts.length x.ct,.int .i64 x.b.lot] 44)):=(Below.refl _ _).alloc (Nat.le_refl _) _
 refine(iContainsF _ g n cap 221 #[.pointer (some ⟨w.heap.size,0,none⟩)] xs (noneB x.b.ic) (!b) (zu HL) h20 (by simp;omega) ((zu X).below A1 hg) (fun _ _=>enters Tryz.func221 (by kernel_rfl) rfl _ _) (fun u y hu=>iNoneInstr u x w.heap.size y (((zu H).below A1).below hu) ((hu.cell (p:=⟨w.heap.size,1,none⟩) (by simp)).trans (by simp)) (zu R)) (zu T)).mono ?_
 rintro e w1 ⟨rfl,b1⟩
 have B1:=zh (A1.trans (b1.mono (by simp)))
 clear b1 A1
 go_wp2
 go_ret
 exact⟨by simp,zu B1⟩
end IHave
namespace ITrade
open BMem Bks IRead IHave
open Tup8 (T8 el8 At8 Holds8 Own8 Reads8)
open Lots (Says says_of NoOk)
open SOk5 (one_more)
theorem at_new(w:World)(xs:List Int)(e:TypeId){g:Nat}{cur:Array Value}(hg:g=w.heap.size)(hc:cur=(xs.map (Value.int .i64)).toArray):Ints.At (w.alloc (.cells cur e)) g xs:=by
 subst hg hc
 intro i hi
 unfold World.cell?
 simp only[heap_alloc_new]
 simp[hi]
theorem iOne(w:World)(x0 x1 x2 x3 x4 x5 x6 x7:Int)(b:Bool)(hb:Says b (TOne (x0,x1,x2,x3,x4,x5,x6,x7))):
  Calls Tryz.prog 217 #[.agg #[.int .i64 x0,.int .i64 x1,.int .i64 x2,.int .i64 x3,.int .i64 x4,.int .i64 x5,.int .i64 x6,.int .i64 x7]] w fun e w'=>e= .returned (.bool b)∧Below w.heap.size w w':=by
 have T:=zh hb
 obtain⟨b1,h1⟩:=says_of (∀x∈[x0,x1,x2,x3,x5],NoOk x)
 have H1:=zh h1
 obtain⟨b4,h4⟩:=says_of (1≤x4∧x4≤1000000000000000)
 have H4:=zh h4
 obtain⟨b6,h6⟩:=says_of (0≤x6∧x6≤1000000000000000)
 have H6:=zh h6
 clear hb h1 h4 h6
 go_enter Tryz.func217,Tryz.ntmps217
 go_wp2_with fail
 refine(iNumbers _ (w.heap.size+1) 5 5 [x0,x1,x2,x3,x5] b1 rfl (by omega) (by simp) (at_new _ [x0,x1,x2,x3,x5] _ (by simp) rfl) (zu H1)).mono ?_
 rintro e w1 ⟨rfl,b1'⟩
 have B1:=zh ((((Below.refl w.heap.size w).alloc (Nat.le_refl _) _).alloc (by simp) _).trans (b1'.mono (by simp;omega)))
 have e1:w1.cell? ⟨w.heap.size,1,none⟩=some (.int .i64 x1):=(b1'.cell (p:=⟨w.heap.size,1,none⟩) (by simp;omega)).trans (by simp)
 have e2:w1.cell? ⟨w.heap.size,2,none⟩=some (.int .i64 x2):=(b1'.cell (p:=⟨w.heap.size,2,none⟩) (by simp;omega)).trans (by simp)
 have e4:w1.cell? ⟨w.heap.size,4,none⟩=some (.int .i64 x4):=(b1'.cell (p:=⟨w.heap.size,4,none⟩) (by simp;omega)).trans (by simp)
 have e6:w1.cell? ⟨w.heap.size,6,none⟩=some (.int .i64 x6):=(b1'.cell (p:=⟨w.heap.size,6,none⟩) (by simp;omega)).trans (by simp)
 have e7:w1.cell? ⟨w.heap.size,7,none⟩=some (.int .i64 x7):=(b1'.cell (p:=⟨w.heap.size,7,none⟩) (by simp;omega)).trans (by simp)
 clear b1'
 cases b1
 ·have F:=zh ((zu T).not (fun h=>(zu H1).no (by
   obtain⟨k0,k1,k2,k3,k5,_⟩:=h
   intro x hx
   simp at hx
   rcases hx with rfl|rfl|rfl|rfl|rfl
   ·exact k0
   ·exact k1
   ·exact k2
   ·exact k3
   ·exact k5)))
  clear T H1 H4 H6
  go_wp2
  go_ret
  exact⟨by rw[zu F];rfl,zu B1⟩
 have N:=zh (zu H1).yes
 by_cases c:x1=x2
 ·have F:=zh ((zu T).not (fun h=>h.2.2.2.2.2.1 c))
  have hz:(x1 !=x2)=false:=by simp[c]
  clear T H1 H4 H6 N c
  go_wp2
  go_ret
  exact⟨by rw[zu F];rfl,zu B1⟩
 have hz:(x1 !=x2)=true:=by simp[c]
 have C:=zh c
 clear c
 go_wp2_with fail
 refine(iFrom _ _ b4 _ (zu H4)).mono ?_
 rintro e w2 ⟨rfl,rfl⟩
 cases b4
 ·have F:=zh ((zu T).not (fun h=>(zu H4).no h.2.2.2.2.2.2.1))
  clear T H1 H4 H6 N C
  go_wp2
  go_ret
  exact⟨by rw[zu F];rfl,zu B1⟩
 go_wp2_with fail
 refine(iFrom _ _ b6 _ (zu H6)).mono ?_
 rintro e w2 ⟨rfl,rfl⟩
 cases b6
 ·have F:=zh ((zu T).not (fun h=>(zu H6).no h.2.2.2.2.2.2.2.1))
  clear T H1 H4 H6 N C
  go_wp2
  go_ret
  exact⟨by rw[zu F];rfl,zu B1⟩
 by_cases c1:1≤x7
 ·have hd:decide (x7≤3)=b:=by
   by_cases c2:x7≤3
   ·rw[decide_eq_true c2]
    exact((zu T).of ⟨(zu N) _ (by simp),(zu N) _ (by simp),(zu N) _ (by simp),(zu N) _ (by simp),(zu N) _ (by simp),zu C,(zu H4).yes,(zu H6).yes,c1,c2⟩).symm
   ·rw[decide_eq_false c2]
    exact((zu T).not (fun h=>c2 h.2.2.2.2.2.2.2.2.2)).symm
  clear T H1 H4 H6 N C
  go_wp2
  go_ret
  exact⟨rfl,zu B1⟩
 ·have F:=zh ((zu T).not (fun h=>c1 h.2.2.2.2.2.2.2.2.1))
  have hd:decide (1≤x7)=false:=decide_eq_false c1
  clear T H1 H4 H6 N C c1
  go_wp2
  go_ret
  exact⟨by rw[zu F];rfl,zu B1⟩
def ahead(ps:List T8)(k:Nat):Int:=if k=0 then 0 else(el8 ps (k-1)).1
theorem ahead_next(ps:List T8)(k:Nat):ahead ps (k+1)=(el8 ps k).1:=by simp[ahead]
theorem row_iff(ps:List T8)(k:Nat):TRowOk ps k↔TOne (el8 ps k)∧¬(el8 ps k).1≤ahead ps k:=by
 unfold TRowOk ahead
 by_cases k0:k=0
 ·subst k0
  constructor
  ·rintro⟨h,_⟩
   have:=h.1.1
   refine⟨h,?_⟩
   rw[if_pos rfl]
   omega
  ·rintro⟨h,_⟩
   exact⟨h,fun h=>by omega⟩
 ·rw[if_neg k0]
  constructor
  ·rintro⟨h,k⟩
   have:=k (by omega)
   exact⟨h,by omega⟩
  ·rintro⟨h,k⟩
   exact⟨h,fun _=>by omega⟩
theorem iOk(w:World)(g n cap:Nat)(ps:List T8)(ok:Bool)(hl:ps.length=n)(h20:n≤1048576)(hg:g<w.heap.size)(h:At8 w g ps)(hok:Says ok (TRight ps)):
  Calls Tryz.prog 182 #[.slice (some ⟨g,0,none⟩) n cap] w fun e w'=>e= .returned (.bool ok)∧Below w.heap.size w w':=by
 have HL:=zh hl
 by_cases nn:(30:Int)<(n:Int)
 ·obtain rfl:ok=false:=hok.not (fun r=>by have:=r.1;omega)
  clear hok h hl
  go_enter Tryz.func182,Tryz.ntmps182
  go_wp2
  go_ret
  exact⟨rfl,Below.refl _ _⟩
 have OK:=zh hok
 have H:=zh h
 clear hok h hl
 go_enter Tryz.func182,Tryz.ntmps182
 go_wp2
 go_loopw [3,11] (fun p i wr=>∃(k:Nat) (bf:Int),k≤n∧i= .int .i64 k∧p= .int .i64 bf∧Hid (ahead ps k=bf)∧Below w.heap.size w wr∧Hid (∀i,i<k→TRowOk ps i)) (fun _ i _=>n-(intOf i).toNat)
 case atStart=>exact⟨0,0,by omega,rfl,rfl,zh rfl,Below.refl _ _,zh (fun i hi=>absurd hi (by omega))⟩
 case round=>
  obtain⟨k,bf,hk,rfl,rfl,HP,hb,HG⟩:=hrel
  have HB:=zh hb
  have hs:=hb.size
  by_cases t:k<n
  ·obtain⟨d0,d1,d2,d3,d4,d5,d6,d7⟩:=(((zu H) k (by rw[zu HL];exact t)).below hb hg)
   clear hb
   have ROW:=zh (row_iff ps k)
   rw[zu HP] at ROW
   have AN:=zh (ahead_next ps k)
   have BAD:=zh (show ¬TRowOk ps k→ok=false from fun hr=>(zu OK).not (fun r=>hr (r.2 k (by rw[zu HL];exact t))))
   have GOOD:=zh (show TRowOk ps k→∀i,i<k+1→TRowOk ps i from fun hr i hi=>by
    by_cases e:i=k
    ·subst e;exact hr
    ·exact(zu HG) i (by omega))
   have EL:Hid (el8 ps k=((el8 ps k).1,(el8 ps k).2.1,(el8 ps k).2.2.1,(el8 ps k).2.2.2.1,(el8 ps k).2.2.2.2.1,(el8 ps k).2.2.2.2.2.1,(el8 ps k).2.2.2.2.2.2.1,(el8 ps k).2.2.2.2.2.2.2)):=rfl
   generalize (el8 ps k).1=x0 at *
   generalize (el8 ps k).2.1=x1 at *
   generalize (el8 ps k).2.2.1=x2 at *
   generalize (el8 ps k).2.2.2.1=x3 at *
   generalize (el8 ps k).2.2.2.2.1=x4 at *
   generalize (el8 ps k).2.2.2.2.2.1=x5 at *
   generalize (el8 ps k).2.2.2.2.2.2.1=x6 at *
   generalize (el8 ps k).2.2.2.2.2.2.2=x7 at *
   rw[zu EL] at ROW
   obtain⟨b1,h1⟩:=says_of (TOne (x0,x1,x2,x3,x4,x5,x6,x7))
   have H1:=zh h1
   clear h1 EL
   go_wp2_with fail
   refine(iOne _ x0 x1 x2 x3 x4 x5 x6 x7 b1 (zu H1)).mono ?_
   rintro e w1 ⟨rfl,b1'⟩
   have e0:w1.cell? ⟨wr.heap.size,0,none⟩=some (.int .i64 x0):=(b1'.cell (p:=⟨wr.heap.size,0,none⟩) (by simp)).trans (by simp)
   have B1:=zh ((zu HB).trans ((((Below.refl wr.heap.size wr).alloc (Nat.le_refl _) _).trans (b1'.mono (by simp))).mono hs))
   clear b1' d0 d1 d2 d3 d4 d5 d6 d7
   cases b1
   ·have F:=zh ((zu BAD) (fun hr=>(zu H1).no ((zu ROW).1 hr).1))
    clear BAD GOOD ROW H1
    go_wp2
    go_ret
    exact⟨by rw[zu F];rfl,zu B1⟩
   by_cases c:x0≤bf
   ·have F:=zh ((zu BAD) (fun hr=>by have:=((zu ROW).1 hr).2;omega))
    clear BAD GOOD ROW H1
    go_wp2
    go_ret
    exact⟨by rw[zu F];rfl,zu B1⟩
   ·have G:=zh ((zu GOOD) ((zu ROW).2 ⟨(zu H1).yes,by omega⟩))
    have hc:decide (x0≤bf)=false:=decide_eq_false c
    clear BAD GOOD ROW H1 c
    go_wp2
    go_roundw
    case rel=>exact⟨k+1,x0,by omega,by go_num,rfl,AN,zu B1,G⟩
    case measure=>simp[intOf];omega
  ·clear hb
   have F:=zh ((zu OK).of ⟨by rw[zu HL];omega,fun i hi=>(zu HG) i (by rw[zu HL] at hi;omega)⟩)
   go_wp2
   go_ret
   exact⟨by rw[zu F];rfl,zu HB⟩
theorem sOk(w:World)(g n cap:Nat)(ps:List T8)(ok:Bool)(hl:ps.length=n)(h20:n≤1048576)(hg:g<w.heap.size)(h:At8 w g ps)(hok:Says ok (TRight ps)):
  Calls Tryz.prog 90 #[.slice (some ⟨g,0,none⟩) n cap] w fun e w'=>e= .returned (.bool ok)∧Below w.heap.size w w':=by
 have HL:=zh hl
 by_cases nn:(30:Int)<(n:Int)
 ·obtain rfl:ok=false:=hok.not (fun r=>by have:=r.1;omega)
  clear hok h hl
  go_enter Tryz.func90,Tryz.ntmps90
  go_wp2
  go_ret
  exact⟨rfl,Below.refl _ _⟩
 have OK:=zh hok
 have H:=zh h
 clear hok h hl
 go_enter Tryz.func90,Tryz.ntmps90
 go_wp2
 go_loopw [3] (fun i wr=>∃(k:Nat),k≤n∧i= .int .i64 k∧Below w.heap.size w wr∧Hid (∀i,i<k→TRowOk ps i)) (fun i _=>n-(intOf i).toNat)
 case atStart=>exact⟨0,by omega,rfl,Below.refl _ _,zh (fun i hi=>absurd hi (by omega))⟩
 case round=>
  obtain⟨k,hk,rfl,hb,HG⟩:=hrel
  have HB:=zh hb
  have hs:=hb.size
  by_cases t:k<n
  ·obtain⟨d0,d1,d2,d3,d4,d5,d6,d7⟩:=(((zu H) k (by rw[zu HL];exact t)).below hb hg)
   have PR:k=0∨∃z:Int,Hid ((el8 ps (k-1)).1=z)∧0<k∧wr.cell? ⟨g,(k-1)*8,none⟩=some (.int .i64 z):=by
    by_cases k0:k=0
    ·exact .inl k0
    ·exact .inr ⟨_,zh rfl,by omega,(((zu H) (k-1) (by rw[zu HL];omega)).below hb hg).1⟩
   clear hb
   have ROW:=zh (show TRowOk ps k↔TOne (el8 ps k)∧(0<k→(el8 ps (k-1)).1<(el8 ps k).1) from Iff.rfl)
   have BAD:=zh (show ¬TRowOk ps k→ok=false from fun hr=>(zu OK).not (fun r=>hr (r.2 k (by rw[zu HL];exact t))))
   have GOOD:=zh (show TRowOk ps k→∀i,i<k+1→TRowOk ps i from fun hr i hi=>by
    by_cases e:i=k
    ·subst e;exact hr
    ·exact(zu HG) i (by omega))
   have EL:Hid (el8 ps k=((el8 ps k).1,(el8 ps k).2.1,(el8 ps k).2.2.1,(el8 ps k).2.2.2.1,(el8 ps k).2.2.2.2.1,(el8 ps k).2.2.2.2.2.1,(el8 ps k).2.2.2.2.2.2.1,(el8 ps k).2.2.2.2.2.2.2)):=rfl
   generalize (el8 ps k).1=x0 at *
   generalize (el8 ps k).2.1=x1 at *
   generalize (el8 ps k).2.2.1=x2 at *
   generalize (el8 ps k).2.2.2.1=x3 at *
   generalize (el8 ps k).2.2.2.2.1=x4 at *
   generalize (el8 ps k).2.2.2.2.2.1=x5 at *
   generalize (el8 ps k).2.2.2.2.2.2.1=x6 at *
   generalize (el8 ps k).2.2.2.2.2.2.2=x7 at *
   rw[zu EL] at ROW
   clear EL
   have NB:=zh (fun m=>(zu HB).trans ((below_drewN (one_more wr (.cells #[.int .i64 x0,.int .i64 x1,.int .i64 x2,.int .i64 x3,.int .i64 x4,.int .i64 x5,.int .i64 x6,.int .i64 x7] 136)) m).mono hs))
   obtain⟨b0,B0⟩:=says_of (NoOk x0)
   obtain⟨b1,B1⟩:=says_of (NoOk x1)
   obtain⟨b2,B2⟩:=says_of (NoOk x2)
   obtain⟨b3,B3⟩:=says_of (NoOk x3)
   obtain⟨b4,B4⟩:=says_of (NoOk x5)
   obtain⟨b6,B6⟩:=says_of (1≤x4∧x4≤1000000000000000)
   obtain⟨b7,B7⟩:=says_of (0≤x6∧x6≤1000000000000000)
   obtain⟨b8,B8⟩:=says_of (1≤x7∧x7≤3)
   cases b0
   ·have F:=zh ((zu BAD) (fun hr=>B0.no ((zu ROW).1 hr).1.1))
    clear BAD GOOD ROW PR
    go_wp2_with fail
    go_quiet (first|(go_at_call 124;refine Calls.quiet_of_same (SOk5.sNo _ false _ B0)))
    go_wp2
    go_ret
    exact⟨by rw[zu F];rfl,(zu NB) _⟩
   cases b1
   ·have F:=zh ((zu BAD) (fun hr=>B1.no ((zu ROW).1 hr).1.2.1))
    clear BAD GOOD ROW PR
    go_wp2_with fail
    go_quiet (first|(go_at_call 124;refine Calls.quiet_of_same (SOk5.sNo _ true _ B0))|(go_at_call 124;refine Calls.quiet_of_same (SOk5.sNo _ false _ B1)))
    go_wp2
    go_ret
    exact⟨by rw[zu F];rfl,(zu NB) _⟩
   cases b2
   ·have F:=zh ((zu BAD) (fun hr=>B2.no ((zu ROW).1 hr).1.2.2.1))
    clear BAD GOOD ROW PR
    go_wp2_with fail
    go_quiet (first|(go_at_call 124;refine Calls.quiet_of_same (SOk5.sNo _ true _ B0))|(go_at_call 124;refine Calls.quiet_of_same (SOk5.sNo _ true _ B1))|(go_at_call 124;refine Calls.quiet_of_same (SOk5.sNo _ false _ B2)))
    go_wp2
    go_ret
    exact⟨by rw[zu F];rfl,(zu NB) _⟩
   cases b3
   ·have F:=zh ((zu BAD) (fun hr=>B3.no ((zu ROW).1 hr).1.2.2.2.1))
    clear BAD GOOD ROW PR
    go_wp2_with fail
    go_quiet (first|(go_at_call 124;refine Calls.quiet_of_same (SOk5.sNo _ true _ B0))|(go_at_call 124;refine Calls.quiet_of_same (SOk5.sNo _ true _ B1))|(go_at_call 124;refine Calls.quiet_of_same (SOk5.sNo _ true _ B2))|(go_at_call 124;refine Calls.quiet_of_same (SOk5.sNo _ false _ B3)))
    go_wp2
    go_ret
    exact⟨by rw[zu F];rfl,(zu NB) _⟩
   cases b4
   ·have F:=zh ((zu BAD) (fun hr=>B4.no ((zu ROW).1 hr).1.2.2.2.2.1))
    clear BAD GOOD ROW PR
    go_wp2_with fail
    go_quiet (first|(go_at_call 124;refine Calls.quiet_of_same (SOk5.sNo _ true _ B0))|(go_at_call 124;refine Calls.quiet_of_same (SOk5.sNo _ true _ B1))|(go_at_call 124;refine Calls.quiet_of_same (SOk5.sNo _ true _ B2))|(go_at_call 124;refine Calls.quiet_of_same (SOk5.sNo _ true _ B3))|(go_at_call 124;refine Calls.quiet_of_same (SOk5.sNo _ false _ B4)))
    go_wp2
    go_ret
    exact⟨by rw[zu F];rfl,(zu NB) _⟩
   by_cases c:x1=x2
   ·have F:=zh ((zu BAD) (fun hr=>((zu ROW).1 hr).1.2.2.2.2.2.1 c))
    have hz:(x1==x2)=true:=by simp[c]
    clear BAD GOOD ROW c PR
    go_wp2_with fail
    go_quiet (first|(go_at_call 124;refine Calls.quiet_of_same (SOk5.sNo _ true _ B0))|(go_at_call 124;refine Calls.quiet_of_same (SOk5.sNo _ true _ B1))|(go_at_call 124;refine Calls.quiet_of_same (SOk5.sNo _ true _ B2))|(go_at_call 124;refine Calls.quiet_of_same (SOk5.sNo _ true _ B3))|(go_at_call 124;refine Calls.quiet_of_same (SOk5.sNo _ true _ B4)))
    go_wp2
    go_ret
    exact⟨by rw[zu F];rfl,(zu NB) _⟩
   have hz:(x1==x2)=false:=by simp[c]
   have C:=zh c
   clear c
   cases b6
   ·have F:=zh ((zu BAD) (fun hr=>B6.no ((zu ROW).1 hr).1.2.2.2.2.2.2.1))
    clear BAD GOOD ROW PR
    go_wp2_with fail
    go_quiet (first|(go_at_call 124;refine Calls.quiet_of_same (SOk5.sNo _ true _ B0))|(go_at_call 124;refine Calls.quiet_of_same (SOk5.sNo _ true _ B1))|(go_at_call 124;refine Calls.quiet_of_same (SOk5.sNo _ true _ B2))|(go_at_call 124;refine Calls.quiet_of_same (SOk5.sNo _ true _ B3))|(go_at_call 124;refine Calls.quiet_of_same (SOk5.sNo _ true _ B4))|(go_at_call 129;refine Calls.quiet_of_same (SOk5.sSome _ _ false _ B6)))
    go_wp2
    go_ret
    exact⟨by rw[zu F];rfl,(zu NB) _⟩
   cases b7
   ·have F:=zh ((zu BAD) (fun hr=>B7.no ((zu ROW).1 hr).1.2.2.2.2.2.2.2.1))
    clear BAD GOOD ROW PR
    go_wp2_with fail
    go_quiet (first|(go_at_call 124;refine Calls.quiet_of_same (SOk5.sNo _ true _ B0))|(go_at_call 124;refine Calls.quiet_of_same (SOk5.sNo _ true _ B1))|(go_at_call 124;refine Calls.quiet_of_same (SOk5.sNo _ true _ B2))|(go_at_call 124;refine Calls.quiet_of_same (SOk5.sNo _ true _ B3))|(go_at_call 124;refine Calls.quiet_of_same (SOk5.sNo _ true _ B4))|(go_at_call 129;refine Calls.quiet_of_same (SOk5.sSome _ _ true _ B6))|(go_at_call 129;refine Calls.quiet_of_same (SOk5.sSome _ _ false _ B7)))
    go_wp2
    go_ret
    exact⟨by rw[zu F];rfl,(zu NB) _⟩
   cases b8
   ·have F:=zh ((zu BAD) (fun hr=>B8.no ((zu ROW).1 hr).1.2.2.2.2.2.2.2.2))
    clear BAD GOOD ROW PR
    go_wp2_with fail
    go_quiet (first|(go_at_call 124;refine Calls.quiet_of_same (SOk5.sNo _ true _ B0))|(go_at_call 124;refine Calls.quiet_of_same (SOk5.sNo _ true _ B1))|(go_at_call 124;refine Calls.quiet_of_same (SOk5.sNo _ true _ B2))|(go_at_call 124;refine Calls.quiet_of_same (SOk5.sNo _ true _ B3))|(go_at_call 124;refine Calls.quiet_of_same (SOk5.sNo _ true _ B4))|(go_at_call 129;refine Calls.quiet_of_same (SOk5.sSome _ _ true _ B6))|(go_at_call 129;refine Calls.quiet_of_same (SOk5.sSome _ _ true _ B7))|(go_at_call 39;refine Calls.quiet_of_same (SOk5.sIn _ _ _ false _ B8)))
    go_wp2
    go_ret
    exact⟨by rw[zu F];rfl,(zu NB) _⟩
   have ONE:=zh (show TOne (x0,x1,x2,x3,x4,x5,x6,x7) from⟨B0.yes,B1.yes,B2.yes,B3.yes,B4.yes,zu C,B6.yes,B7.yes,B8.yes⟩)
   rcases PR with rfl|⟨z,Z,k0,pc⟩
   ·have G:=zh ((zu GOOD) ((zu ROW).2 ⟨zu ONE,fun h=>by omega⟩))
    clear BAD GOOD ROW ONE
    go_wp2_with fail
    go_quiet (first|(go_at_call 124;refine Calls.quiet_of_same (SOk5.sNo _ true _ B0))|(go_at_call 124;refine Calls.quiet_of_same (SOk5.sNo _ true _ B1))|(go_at_call 124;refine Calls.quiet_of_same (SOk5.sNo _ true _ B2))|(go_at_call 124;refine Calls.quiet_of_same (SOk5.sNo _ true _ B3))|(go_at_call 124;refine Calls.quiet_of_same (SOk5.sNo _ true _ B4))|(go_at_call 129;refine Calls.quiet_of_same (SOk5.sSome _ _ true _ B6))|(go_at_call 129;refine Calls.quiet_of_same (SOk5.sSome _ _ true _ B7))|(go_at_call 39;refine Calls.quiet_of_same (SOk5.sIn _ _ _ true _ B8)))
    go_wp2
    go_roundw
    case rel=>exact⟨1,by omega,by go_num,(zu NB) _,G⟩
    case measure=>simp[intOf];omega
   ·have k1:(0:Int)<(k:Int):=by omega
    have k2:(0:Int)≤(k:Int) -1:=by omega
    have k3:((k:Int) -1).toNat=k-1:=by omega
    have k4:IntKind.i64.wrap ((k:Int) -1)=(k:Int) -1:=by rw[IntKind.wrap_i64];omega
    have k5:(k:Int) -1<(n:Int):=by omega
    have gne:g≠wr.heap.size:=by omega
    have gs:g<wr.heap.size:=by omega
    by_cases c:z≥x0
    ·have F:=zh ((zu BAD) (fun hr=>by have:=((zu ROW).1 hr).2 k0;rw[zu Z] at this;omega))
     have hc:decide (z≥x0)=true:=decide_eq_true c
     clear BAD GOOD ROW ONE c
     go_wp2_with fail
     go_quiet (first|(go_at_call 124;refine Calls.quiet_of_same (SOk5.sNo _ true _ B0))|(go_at_call 124;refine Calls.quiet_of_same (SOk5.sNo _ true _ B1))|(go_at_call 124;refine Calls.quiet_of_same (SOk5.sNo _ true _ B2))|(go_at_call 124;refine Calls.quiet_of_same (SOk5.sNo _ true _ B3))|(go_at_call 124;refine Calls.quiet_of_same (SOk5.sNo _ true _ B4))|(go_at_call 129;refine Calls.quiet_of_same (SOk5.sSome _ _ true _ B6))|(go_at_call 129;refine Calls.quiet_of_same (SOk5.sSome _ _ true _ B7))|(go_at_call 39;refine Calls.quiet_of_same (SOk5.sIn _ _ _ true _ B8)))
     go_wp2
     go_ret
     exact⟨by rw[zu F];rfl,(zu NB) _⟩
    ·have G:=zh ((zu GOOD) ((zu ROW).2 ⟨zu ONE,fun _=>by rw[zu Z];omega⟩))
     have hc:decide (z≥x0)=false:=decide_eq_false c
     clear BAD GOOD ROW c ONE
     go_wp2_with fail
     go_quiet (first|(go_at_call 124;refine Calls.quiet_of_same (SOk5.sNo _ true _ B0))|(go_at_call 124;refine Calls.quiet_of_same (SOk5.sNo _ true _ B1))|(go_at_call 124;refine Calls.quiet_of_same (SOk5.sNo _ true _ B2))|(go_at_call 124;refine Calls.quiet_of_same (SOk5.sNo _ true _ B3))|(go_at_call 124;refine Calls.quiet_of_same (SOk5.sNo _ true _ B4))|(go_at_call 129;refine Calls.quiet_of_same (SOk5.sSome _ _ true _ B6))|(go_at_call 129;refine Calls.quiet_of_same (SOk5.sSome _ _ true _ B7))|(go_at_call 39;refine Calls.quiet_of_same (SOk5.sIn _ _ _ true _ B8)))
     go_wp2
     go_roundw
     case rel=>exact⟨k+1,by omega,by go_num,(zu NB) _,G⟩
     case measure=>simp[intOf];omega
  ·clear hb
   have F:=zh ((zu OK).of ⟨by rw[zu HL];omega,fun i hi=>(zu HG) i (by rw[zu HL] at hi;omega)⟩)
   go_wp2
   go_ret
   exact⟨by rw[zu F];rfl,zu HB⟩
end ITrade
namespace IIndex8
open BMem Bks IRead
open Lots (Says says_of NoOk)
open Tup8 (T8 el8 At8 Holds8)
def FirstAt8(xs:List T8)(p:T8→Bool)(r:Int):Prop:=(r= -1∧∀x∈xs,p x=false)∨(0≤r∧∃x∈xs,p x=true)
theorem iIndexF8(w:World)(g n cap K:Nat)(caps:Array Value)(xs:List T8)(p:T8→Bool)(hl:xs.length=n)(h20:n≤1048576)(hg:g<w.heap.size)(h:At8 w g xs)
  (hK:∀(args:Array Value) (u:World),(callFunc K args).run Tryz.prog u= .ok (.enter K args) u)(hf:∀(u:World) (y:T8),Below w.heap.size w u→Calls Tryz.prog K (#[.agg #[.int .i64 y.1,.int .i64 y.2.1,.int .i64 y.2.2.1,.int .i64 y.2.2.2.1,.int .i64 y.2.2.2.2.1,.int .i64 y.2.2.2.2.2.1,.int .i64 y.2.2.2.2.2.2.1,.int .i64 y.2.2.2.2.2.2.2]]++caps) u fun e u'=>e= .returned (.bool (p y))∧Below u.heap.size u u'):
  Calls Tryz.prog 226 #[.slice (some ⟨g,0,none⟩) n cap,.func (.func K) #[] caps] w fun e w'=>∃r,FirstAt8 xs p r∧e= .returned (.int .i64 r)∧Below w.heap.size w w':=by
 have H:=zh h
 have HF:=zh hf
 have HL:=zh hl
 clear h hf hl
 go_enter Tryz.func226,Tryz.ntmps226
 go_wp2_with fail
 go_loopw [8] (fun i wr=>∃(k:Nat),k≤n∧i= .int .i64 k∧(∀j,j<k→p (el8 xs j)=false)∧Below w.heap.size w wr) (fun i _=>n-(intOf i).toNat)
 case atStart=>exact⟨0,by omega,rfl,fun j hj=>by omega,Below.refl _ _⟩
 case round=>
  obtain⟨k,hk,rfl,hn,hb⟩:=hrel
  have HB:=zh hb
  have HN:=zh hn
  by_cases t:k<n
  ·obtain⟨c0,c1,c2,c3,c4,c5,c6,c7⟩:=((zu H).below hb hg) k (by rw[zu HL];exact t)
   have hM:el8 xs k∈xs:=by
    simp[el8,List.getD,zu HL,t]
   have HM:=zh hM
   clear hb hn hM
   generalize hy:el8 xs k=y at *
   have HY:=zh hy
   clear hy
   go_wp2_with fail
   refine((zu HF) _ y (zu HB)).mono ?_
   rintro e w1 ⟨rfl,b1⟩
   have B1:=zh (next (zu HB) b1)
   clear b1 c0 c1 c2 c3 c4 c5 c6 c7
   cases hp:p y
   ·go_wp2
    go_roundw
    case rel=>exact⟨k+1,by omega,by go_num,fun j hj=>by
     by_cases e:j=k
     ·subst e;rw[zu HY];exact hp
     ·exact(zu HN) j (by omega),zu B1⟩
    case measure=>simp[intOf];omega
   ·go_wp2
    go_ret
    exact⟨k,.inr ⟨by omega,y,zu HM,hp⟩,rfl,zu B1⟩
  ·clear hb hn
   have hkn:k=n:=by omega
   have E0:=zh (show ∀x∈xs,p x=false from fun x hx=>by
    obtain⟨j,hj,rfl⟩:=List.getElem_of_mem hx
    have:=(zu HN) j (by rw[zu HL] at hj;omega)
    simpa[el8,List.getD,hj] using this)
   clear hkn
   go_wp2
   go_ret
   exact⟨-1,.inl ⟨rfl,zu E0⟩,rfl,zu HB⟩
theorem iContainsF8(w:World)(g n cap K:Nat)(caps:Array Value)(xs:List T8)(p:T8→Bool)(b:Bool)(hl:xs.length=n)(h20:n≤1048576)(hg:g<w.heap.size)(h:At8 w g xs)
  (hK:∀(args:Array Value) (u:World),(callFunc K args).run Tryz.prog u= .ok (.enter K args) u)(hf:∀(u:World) (y:T8),Below w.heap.size w u→Calls Tryz.prog K (#[.agg #[.int .i64 y.1,.int .i64 y.2.1,.int .i64 y.2.2.1,.int .i64 y.2.2.2.1,.int .i64 y.2.2.2.2.1,.int .i64 y.2.2.2.2.2.1,.int .i64 y.2.2.2.2.2.2.1,.int .i64 y.2.2.2.2.2.2.2]]++caps) u fun e u'=>e= .returned (.bool (p y))∧Below u.heap.size u u')(hb:Says b (∃x∈xs,p x=true)):
  Calls Tryz.prog 190 #[.slice (some ⟨g,0,none⟩) n cap,.func (.func K) #[] caps] w fun e w'=>e= .returned (.bool b)∧Below w.heap.size w w':=by
 have H:=zh h
 have HF:=zh hf
 have HL:=zh hl
 have T:=zh hb
 clear h hf hl hb
 go_enter Tryz.func190,Tryz.ntmps190
 go_wp2_with fail
 refine(iIndexF8 _ g n cap K caps xs p (zu HL) h20 hg (zu H) hK (zu HF)).mono ?_
 rintro e w1 ⟨r,hr,rfl,b1⟩
 have B1:=zh b1
 have hd:decide (0≤r)=b:=by
  rcases hr with⟨rfl,hr⟩|⟨h0,hr⟩
  ·rw[(zu T).not (fun⟨x,hx,e⟩=>by rw[hr x hx] at e;cases e)];rfl
  ·rw[(zu T).of hr];exact decide_eq_true h0
 clear b1 hr
 go_wp2
 go_ret
 exact⟨rfl,zu B1⟩
end IIndex8
end Go.Proofs.YtppkkmaoaiopaaaGreat
