/- Lemmas. -/
import Derived.Test.YtcjgepkdpkhljaaGreatQG6
import Derived.Lib.EndianBits
open Go.ChangeShapes Go.WideShapes Go.ChangeAt Go.RowKit
set_option linter.unusedVariables false
set_option linter.unusedSimpArgs false
set_option maxRecDepth 100000
set_option maxHeartbeats 32000000
namespace Go.Proofs.YtcjgepkdpkhljaaGreat
namespace IRd11
open SBytes SPut11
abbrev Pl(w:World)(base p:Nat)(x:Int):Prop:=Ints.Own w base p 1 1 [x]
theorem Pl.cell{w:World}{base p:Nat}{x:Int}(h:Pl w base p x):w.cell? ⟨p,0,none⟩=some (.int .i64 x):=h.at 0 (by simp)
theorem pl_box(w:World)(base:Nat){g:Nat}(x:Int)(hb:base≤w.heap.size)(hg:g=w.heap.size):Pl (w.alloc (.cells #[.int .i64 x] 3)) base g x:=by
 subst hg
 exact World.ownsRow_lit w #[.int .i64 x] 1 hb (by decide) rfl
theorem pl_alloc{w:World}{base p:Nat}{x:Int}(h:Pl w base p x)(o:Obj):Pl (w.alloc o) base p x:=World.ownsRow.alloc h o
theorem grow_below{w w1 w2:World}{row:Option Nat}(h:w.grownBy w1 row)(k:Below w1.heap.size w1 w2):w.grownBy w2 row:=
 ⟨k.os.trans h.os,k.tape.trans h.tape,k.output.trans h.output,Nat.le_trans h.size k.size,fun i hi hr=>(k.block i (Nat.lt_of_lt_of_le hi h.size)).trans (h.block i hi hr)⟩
theorem grow_grow{w w1 w2:World}{row:Option Nat}(h:w.grownBy w1 row)(k:w1.grownBy w2 row):w.grownBy w2 row:=
 ⟨k.os.trans h.os,k.tape.trans h.tape,k.output.trans h.output,Nat.le_trans h.size k.size,fun i hi hr=>(k.block i (Nat.lt_of_lt_of_le hi h.size) hr).trans (h.block i hi hr)⟩
theorem pl_set{w:World}{base p:Nat}{x:Int}(h:Pl w base p x)(y:Int):Pl (w.setCell ⟨p,0,none⟩ (.int .i64 y)) base p y∧w.grownBy (w.setCell ⟨p,0,none⟩ (.int .i64 y)) (some p):=Ints.Own.set h 0 y
theorem iTake_low(w:World)(gl cl p base n:Nat)(x many:Int)(h:x<0)(hp:Pl w base p x):
  Calls Tryz.prog 91 #[.agg #[.slice (some ⟨gl,0,none⟩) n cl,.pointer (some ⟨p,0,none⟩)],.int .i64 many] w fun e w'=>e= .returned (.tuple #[.slice none 0 0,.bool false])∧Below w.heap.size w w':=by
 have pc:=hp.cell
 have pl:=hp.lt.2
 clear hp
 go_enter Tryz.func91,Tryz.ntmps91
 go_wp2
 go_ret2
 exact⟨rfl,one_more _ _⟩
theorem iTake_no(w:World)(gl cl p base n:Nat)(x many:Int)(h:0≤x)(hx:x≤9223372036854775807)(hn:n≤1048576)(hm:(n:Int) -x<many)(hp:Pl w base p x):
  Calls Tryz.prog 91 #[.agg #[.slice (some ⟨gl,0,none⟩) n cl,.pointer (some ⟨p,0,none⟩)],.int .i64 many] w fun e w'=>e= .returned (.tuple #[.slice none 0 0,.bool false])∧Below w.heap.size w w':=by
 have pc:=hp.cell
 have pl:=hp.lt.2
 clear hp
 go_enter Tryz.func91,Tryz.ntmps91
 go_wp2
 go_ret2
 exact⟨rfl,one_more _ _⟩
theorem iTake_yes(w:World)(gl cl p base n k m:Nat)(hc:n≤cl)(hn:n≤1048576)(h1:1≤m)(hm:k+m≤n)(hp:Pl w base p k):
  Calls Tryz.prog 91 #[.agg #[.slice (some ⟨gl,0,none⟩) n cl,.pointer (some ⟨p,0,none⟩)],.int .i64 m] w fun e w'=>∃c,e= .returned (.tuple #[.slice (some ⟨gl,k,none⟩) m c,.bool true])∧m≤c∧Pl w' base p (k+m)∧w.grownBy w' (some p):=by
 have pc:=hp.cell
 have pl:=hp.lt.2
 have pf:=hp.free 0
 have PP:=zh hp
 have ck:¬cl=k:=by omega
 clear hp
 go_enter Tryz.func91,Tryz.ntmps91
 go_wp2
 go_region
 go_wp2
 go_ret2
 have e:k+m-k=m:=by omega
 obtain⟨s1,s2⟩:=pl_set (zu PP) (k+m)
 exact⟨cl-k,by show Ending.returned (.tuple #[.slice (some ⟨gl,k,none⟩) (k+m-k) (cl-k),.bool true])=_;rw[e],by omega,pl_alloc s1 _,grow_below s2 (one_more _ _).drew⟩
def NumSaid(r:Int×Int×Bool)(w:World)(base p:Nat)(e:Ending)(w':World):Prop:=
 ∃v q,e= .returned (.tuple #[.int .i64 v,.bool r.2.2])∧(r.2.2=true→v=r.1∧q=r.2.1)∧Pl w' base p q∧w.grownBy w' (some p)
theorem NumSaid.no{w w':World}{base p:Nat}{e:Ending}(v q:Int)(h:e= .returned (.tuple #[.int .i64 v,.bool false]))(hp:Pl w' base p q)(hg:w.grownBy w' (some p)):NumSaid (0,0,false) w base p e w':=⟨v,q,h,by simp,hp,hg⟩
theorem NumSaid.yes{w w':World}{base p:Nat}{e:Ending}{v q:Int}(v' q':Int)(h:e= .returned (.tuple #[.int .i64 v',.bool true]))(hv:v'=v)(hq:q'=q)(hp:Pl w' base p q')(hg:w.grownBy w' (some p)):NumSaid (v,q,true) w base p e w':=⟨v',q',h,fun _=>⟨hv,hq⟩,hp,hg⟩
theorem AtB.grown{w w':World}{g p:Nat}{xs:List Int}(h:AtB w g xs)(k:w.grownBy w' (some p))(hg:g<w.heap.size)(hp:g≠p):AtB w' g xs:=
 fun i hi=>⟨(World.cell?_of_block (w:=w) (k.block g hg (by simpa using hp))).trans (h i hi).1,(h i hi).2⟩
theorem rd_box(w:World)(a b:Value):(w.alloc (.cells #[a,b] 92)).cell? ⟨w.heap.size,0,none⟩=some a∧(w.alloc (.cells #[a,b] 92)).cell? ⟨w.heap.size,1,none⟩=some b:=by simp
theorem cell_grown{w w':World}{p:Nat}(k:w.grownBy w' (some p)){g:Nat}(o:Nat)(hg:g<w.heap.size)(hp:g≠p):w'.cell? ⟨g,o,none⟩=w.cell? ⟨g,o,none⟩:=
 World.cell?_of_block (w:=w) (k.block g hg (by simpa using hp))
theorem iNum_low(w:World)(gl cl p base:Nat)(xs:List Int)(x:Int)(h:x<0)(hp:Pl w base p x):
  Calls Tryz.prog 64 #[.agg #[.slice (some ⟨gl,0,none⟩) xs.length cl,.pointer (some ⟨p,0,none⟩)]] w (NumSaid (getN xs x) w base p):=by
 have e:getN xs x=(0,0,false):=by unfold getN;rw[if_pos (.inl h)]
 have PP:=zh hp
 clear hp
 rw[e]
 go_enter Tryz.func64,Tryz.ntmps64
 go_wp2
 go_loopw [4,5,6,7,8] (fun _ _ _ _ i wr=>i= .int .i64 0∧wr=w.alloc (.cells #[.slice (some ⟨gl,0,none⟩) xs.length cl,.pointer (some ⟨p,0,none⟩)] 92)) (fun _ _ _ _ _ _=>0)
 case atStart=>exact⟨rfl,rfl⟩
 case round=>
  obtain⟨rfl,rfl⟩:=hrel
  go_wp2_with fail
  refine(iTake_low _ gl cl p base xs.length x 1 h (pl_alloc (zu PP) _)).mono ?_
  rintro e u ⟨rfl,b1⟩
  have B1:=zh b1
  clear b1
  go_wp2
  go_ret2
  have b:=(one_more w _).trans ((zu B1).mono (by simp))
  exact .no 0 x rfl ((zu PP).below b (zu PP).lt.2) (grow_below (World.grownBy.refl _ _) b)
theorem iNum_far(w:World)(gl cl p base:Nat)(xs:List Int)(x:Int)(h0:0≤x)(h:(xs.length:Int)≤x)(hx:x≤9223372036854775807)(h20:xs.length≤1048576)(hp:Pl w base p x):
  Calls Tryz.prog 64 #[.agg #[.slice (some ⟨gl,0,none⟩) xs.length cl,.pointer (some ⟨p,0,none⟩)]] w (NumSaid (getN xs x) w base p):=by
 have e:getN xs x=(0,0,false):=by unfold getN;rw[if_pos (.inr h)]
 have PP:=zh hp
 clear hp
 rw[e]
 go_enter Tryz.func64,Tryz.ntmps64
 go_wp2
 go_loopw [4,5,6,7,8] (fun _ _ _ _ i wr=>i= .int .i64 0∧wr=w.alloc (.cells #[.slice (some ⟨gl,0,none⟩) xs.length cl,.pointer (some ⟨p,0,none⟩)] 92)) (fun _ _ _ _ _ _=>0)
 case atStart=>exact⟨rfl,rfl⟩
 case round=>
  obtain⟨rfl,rfl⟩:=hrel
  go_wp2_with fail
  refine(iTake_no _ gl cl p base xs.length x 1 h0 hx h20 (by omega) (pl_alloc (zu PP) _)).mono ?_
  rintro e u ⟨rfl,b1⟩
  have B1:=zh b1
  clear b1
  go_wp2
  go_ret2
  have b:=(one_more w _).trans ((zu B1).mono (by simp))
  exact .no 0 x rfl ((zu PP).below b (zu PP).lt.2) (grow_below (World.grownBy.refl _ _) b)
theorem shl_is(d:Int)(k:Nat)(h0:0≤d)(h1:d≤127)(hk:k≤8):wrap64 (d*2^(7*k))=d*128^k:=by
 have e:(128:Int)^k=2^(7*k):=by rw[show(128:Int)=2^7 by decide,←Int.pow_mul]
 rw[←e]
 have p:=pow_le k hk
 have m0:=Int.mul_nonneg h0 (Int.le_trans (by decide) p.1)
 have m1:=Int.mul_le_mul_of_nonneg_right h1 (Int.le_trans (by decide) p.1)
 rw[wrap64]
 omega
theorem or_is(v d:Int)(k:Nat)(hk:k≤8)(h0:0≤d)(h1:d≤127)(v0:0≤v)(v1:v<128^k):bits .or .i64 v (d*128^k)=v+d*128^k:=by
 have e:(128:Int)^k=2^(7*k):=by rw[show(128:Int)=2^7 by decide,←Int.pow_mul]
 have p:=pow_le k hk
 have m0:=Int.mul_nonneg h0 (Int.le_trans (by decide) p.1)
 have m1:=Int.mul_le_mul_of_nonneg_right h1 (Int.le_trans (by decide) p.1)
 refine bits_join_low .i64 63 (by decide) (fun n a b=>by rw[IntKind.wrap_i64];omega) (7*k) v _ v0 (by rw[←e];exact v1) (by omega) m0 ?_ (by omega)
 rw[e]
 exact Int.mul_emod_left _ _
theorem iNum_in(w:World)(gl cl p base:Nat)(xs:List Int)(n:Nat)(h:n<xs.length)(h20:xs.length≤1048576)(hc:xs.length≤cl)(hg:gl<base)(hr:AtB w gl xs)(hp:Pl w base p n):
  Calls Tryz.prog 64 #[.agg #[.slice (some ⟨gl,0,none⟩) xs.length cl,.pointer (some ⟨p,0,none⟩)]] w (NumSaid (getN xs n) w base p):=by
 have E0:=zh (show getN xs n=getF xs n 9 0 from by unfold getN;rw[if_neg (by omega)];simp)
 generalize getN xs n=r at *
 obtain⟨r0,r1,r2⟩:=r
 obtain⟨l0,l1⟩:=hp.lt
 have G0:=zh (show w.grownBy (w.alloc (.cells #[.slice (some ⟨gl,0,none⟩) xs.length cl,.pointer (some ⟨p,0,none⟩)] 92)) (some p) from grow_below (World.grownBy.refl _ _) (one_more _ _))
 have C0:=zh (rd_box w (.slice (some ⟨gl,0,none⟩) xs.length cl) (.pointer (some ⟨p,0,none⟩)))
 have P0:=zh (show Pl (w.alloc (.cells #[.slice (some ⟨gl,0,none⟩) xs.length cl,.pointer (some ⟨p,0,none⟩)] 92)) base p ((n+(0:Nat):Nat):Int) from pl_alloc hp _)
 have R:=zh hr
 have S0:=zh (show w.heap.size+1≤(w.alloc (.cells #[.slice (some ⟨gl,0,none⟩) xs.length cl,.pointer (some ⟨p,0,none⟩)] 92)).heap.size from by simp)
 clear hr hp
 go_enter Tryz.func64,Tryz.ntmps64
 go_wp2
 go_loopw [4,5,6,7,8] (fun a _ _ _ i wr=>∃(k:Nat) (v:Int),k≤9∧i= .int .i64 k∧a= .int .i64 v∧Hid (v=val xs n k)∧Hid ((r0,r1,r2)=getF xs n (9-k) k)∧Hid (Pl wr base p ((n+k:Nat):Int))∧Hid (w.grownBy wr (some p))∧Hid (wr.cell? ⟨w.heap.size,0,none⟩=some (.slice (some ⟨gl,0,none⟩) xs.length cl)∧wr.cell? ⟨w.heap.size,1,none⟩=some (.pointer (some ⟨p,0,none⟩)))∧Hid (w.heap.size+1≤wr.heap.size)) (fun _ _ _ _ i _=>9-(intOf i).toNat)
 case atStart=>exact⟨0,0,by omega,rfl,rfl,rfl,E0,P0,G0,C0,S0⟩
 case round=>
  clear E0 P0 G0 C0 S0
  obtain⟨k,v,hk,rfl,rfl,HV,HE,HP,HG,HC,HS⟩:=hrel
  have bs:=zu HS
  obtain⟨c0,c1⟩:=zu HC
  by_cases t:k<9
  case neg=>
   have e:k=9:=by omega
   subst e
   have F:(r0,r1,r2)=(0,0,false):=zu HE
   injection F with F0 F
   injection F with F1 F2
   subst F0 F1 F2
   clear HE
   go_wp2
   go_ret2
   exact .no 0 _ rfl (zu HP) (zu HG)
  have F:=zu HE
  rw[show 9-k=(8-k)+1 by omega] at F
  simp only[getF] at F
  have HF:=zh F
  clear HE F
  have k9:(k:Int)<9:=by omega
  by_cases q:n+k<xs.length
  case neg=>
   have F:=zu HF
   rw[if_neg q] at F
   injection F with F0 F
   injection F with F1 F2
   subst F0 F1 F2
   clear HF
   go_wp2_with fail
   refine(iTake_no _ gl cl p base xs.length _ 1 (by omega) (by omega) h20 (by omega) (zu HP)).mono ?_
   rintro e u ⟨rfl,b1⟩
   have B1:=zh b1
   clear b1
   go_wp2
   go_ret2
   exact .no 0 _ rfl ((zu HP).below (zu B1) (zu HP).lt.2) (grow_below (zu HG) (zu B1))
  obtain⟨_,d0,d1⟩:=(zu R) (n+k) q
  have vi:=val_in xs n k
  rw[←zu HV] at vi
  have SO:=zh (show bits .or .i64 v (wrap64 (xs.getD (n+k) 0%128*2^(7*k)))=val xs n (k+1) from by
   rw[shl_is _ k (by omega) (by omega) (by omega),or_is v _ k (by omega) (by omega) (by omega) vi.1 vi.2,zu HV];rfl)
  clear vi
  have VI:=zh (val_in xs n (k+1))
  go_wp2_with fail
  refine(iTake_yes _ gl cl p base xs.length (n+k) 1 hc h20 (by omega) (by omega) (zu HP)).mono ?_
  rintro e u ⟨c,rfl,hc1,p1,g1⟩
  have P1:=zh p1
  have G1:=zh (grow_grow (zu HG) g1)
  have D:=zh ((AtB.grown (zu R) (zu G1) (by omega) (by omega)) (n+k) q)
  have C1:=zh (And.intro ((cell_grown g1 0 bs (by omega)).trans c0) ((cell_grown g1 1 bs (by omega)).trans c1))
  have us:=g1.size
  clear p1 g1
  obtain⟨dc,_⟩:=zu D
  have F:=zu HF
  rw[if_pos q] at F
  clear HF D VI HC c0 c1 HP HG HS
  generalize xs.getD (n+k) 0=d at *
  by_cases m:d<128
  ·rw[if_pos m] at F
   by_cases z:d=0
   ·subst z
    by_cases k0:k=0
    ·have kb:((k:Int)==0)=true:=by simp[k0]
     rw[if_neg (by omega)] at F
     injection F with F0 F
     injection F with F1 F2
     subst F0 F1 F2
     have K0:=zh k0
     clear k0
     go_wp2
     go_ret2
     exact .yes _ _ rfl (by simpa[wrap64] using zu SO) (by simp) (zu P1) (zu G1)
    ·have kb:((k:Int)==0)=false:=by simp[k0]
     rw[if_pos (by omega)] at F
     injection F with F0 F
     injection F with F1 F2
     subst F0 F1 F2
     have K0:=zh k0
     clear k0
     go_wp2
     go_ret2
     exact .no _ _ rfl (zu P1) (zu G1)
   ·rw[if_neg (by omega)] at F
    injection F with F0 F
    injection F with F1 F2
    subst F0 F1 F2
    go_wp2
    go_ret2
    exact .yes _ _ rfl (zu SO) (by simp) (zu P1) (zu G1)
  ·rw[if_neg m] at F
   have HF:=zh F
   clear F
   go_wp2
   go_roundw
   case rel=>exact⟨k+1,_,by omega,by go_num,rfl,SO,by rw[show 9-(k+1)=8-k by omega];exact HF,zh (by have:=zu P1;rw[show((n+(k+1):Nat):Int)=((n+k:Nat):Int)+((1:Nat):Int) by omega];exact this),G1,C1,zh (by omega)⟩
   case measure=>simp[intOf];omega
theorem iNum(w:World)(gl cl p base:Nat)(xs:List Int)(x:Int)(hx:x≤9223372036854775807)(h20:xs.length≤1048576)(hc:xs.length≤cl)(hg:gl<base)(hr:AtB w gl xs)(hp:Pl w base p x):
  Calls Tryz.prog 64 #[.agg #[.slice (some ⟨gl,0,none⟩) xs.length cl,.pointer (some ⟨p,0,none⟩)]] w (NumSaid (getN xs x) w base p):=by
 by_cases h0:x<0
 ·exact iNum_low w gl cl p base xs x h0 hp
 by_cases h1:(xs.length:Int)≤x
 ·exact iNum_far w gl cl p base xs x (by omega) h1 hx h20 hp
 obtain⟨n,rfl⟩:∃n:Nat,x=n:=⟨x.toNat,by omega⟩
 exact iNum_in w gl cl p base xs n (by omega) h20 hc hg hr hp
end IRd11
namespace IGets11
open SBytes SPut11 SPuts11 IRd11
theorem getN_next(xs:List Int)(x:Int)(h20:xs.length≤1048576)(h:(getN xs x).2.2=true):(getN xs x).2.1≤9223372036854775807:=by
 have:∀f k,(getF xs x.toNat f k).2.2=true→(getF xs x.toNat f k).2.1≤xs.length:=by
  intro f
  induction f with
  |zero=>intro k;simp[getF]
  |succ f ih=>
   intro k h
   simp only[getF] at h⊢
   by_cases a:x.toNat+k<xs.length
   ·rw[if_pos a] at h⊢
    by_cases b:xs.getD (x.toNat+k) 0<128
    ·rw[if_pos b] at h⊢
     by_cases c:xs.getD (x.toNat+k) 0=0∧0<k
     ·rw[if_pos c] at h;simp at h
     ·rw[if_neg c];simp only;omega
    ·rw[if_neg b] at h⊢
     exact ih (k+1) h
   ·rw[if_neg a] at h;simp at h
 unfold getN at h⊢
 by_cases a:x<0∨(xs.length:Int)≤x
 ·rw[if_pos a];simp
 ·rw[if_neg a] at h⊢
  have:=this 9 0 h
  omega
end IGets11
end Go.Proofs.YtcjgepkdpkhljaaGreat
