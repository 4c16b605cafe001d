/- Lemmas. -/
import Derived.Test.YtcjgepkdpkhljaaGreatQG2
import Derived.BigQuiet
open Go.ChangeShapes Go.WideShapes Go.ChangeAt Go.RowKit
set_option linter.unusedVariables false
set_option linter.unusedSimpArgs false
set_option maxRecDepth 100000
set_option maxHeartbeats 32000000
namespace Go.Proofs.YtcjgepkdpkhljaaGreat
namespace Pairs
theorem zh{p:Prop}(h:p):Hid p:=h
theorem zu{p:Prop}(h:Hid p):p:=h
def flat(ps:List (Int×Int)):List Value:=ps.flatMap fun p=>[.int .i64 p.1,.int .i64 p.2]
theorem flat_nil:flat []=[]:=rfl
theorem flat_cons(p:Int×Int)(ps:List (Int×Int)):flat (p::ps)= .int .i64 p.1:: .int .i64 p.2::flat ps:=rfl
theorem flat_append(ps qs:List (Int×Int)):flat (ps++qs)=flat ps++flat qs:=by simp[flat,List.flatMap_append]
theorem flat_len(ps:List (Int×Int)):(flat ps).length=ps.length*2:=by
 induction ps with
 |nil=>rfl
 |cons p ps ih=>rw[flat_cons];simp[ih];omega
theorem flat_get(ps:List (Int×Int)):∀i,i<ps.length→(flat ps)[i*2]?=some (.int .i64 (ps.getD i (0,0)).1)∧(flat ps)[i*2+1]?=some (.int .i64 (ps.getD i (0,0)).2):=by
 induction ps with
 |nil=>intro i h;simp at h
 |cons p ps ih=>
  intro i h
  cases i with
  |zero=>rw[flat_cons];simp
  |succ i=>
   have:=ih i (by simpa using h)
   rw[flat_cons,show(i+1)*2=i*2+2 by omega,show i*2+2+1=(i*2+1)+2 by omega]
   simpa using this
theorem flat_one(u:Value)(ps:List (Int×Int))(h:u∈flat ps):u.oneCell'=true:=by
 induction ps with
 |nil=>simp[flat] at h
 |cons p ps ih=>
  rw[flat_cons] at h
  simp only[List.mem_cons] at h
  rcases h with rfl|rfl|h
  ·rfl
  ·rfl
  ·exact ih h
def At(w:World)(g:Nat)(ps:List (Int×Int)):Prop:=
 ∀i,i<ps.length→w.cell? ⟨g,i*2,none⟩=some (.int .i64 (ps.getD i (0,0)).1)∧w.cell? ⟨g,i*2+1,none⟩=some (.int .i64 (ps.getD i (0,0)).2)
def Own(e:TypeId)(w:World)(base g n cap:Nat)(ps:List (Int×Int)):Prop:=w.ownsRow base e 2 (.slice (some ⟨g,0,none⟩) n cap) n (flat ps)
section
variable {e:TypeId} {w w':World} {base base' g n cap:Nat} {ps:List (Int×Int)}
theorem Own.len(h:Own e w base g n cap ps):ps.length=n:=by
 have:=h.1
 rw[flat_len] at this
 omega
theorem Own.lt(h:Own e w base g n cap ps):base≤g∧g<w.heap.size:=World.ownsRow.lt h g rfl
theorem Own.at(h:Own e w base g n cap ps):At w g ps:=by
 intro i hi
 have hl:=h.len
 have g0:=World.ownsRow.cellAt h (i*2) (by omega)
 have g1:=World.ownsRow.cellAt h (i*2+1) (by omega)
 obtain⟨f0,f1⟩:=flat_get ps i hi
 exact⟨g0.trans f0,g1.trans f1⟩
theorem Own.rebase(h:Own e w base g n cap ps)(hb:base'≤g):Own e w base' g n cap ps:=by
 refine⟨h.1,?_⟩
 rcases h.2 with⟨h1,_⟩|⟨g',c,cur,h1,h2,h3⟩
 ·simp at h1
 ·obtain⟨e,_⟩:g=g'∧cap=c:=by simpa using h1
  subst e
  exact Or.inr ⟨g,c,cur,h1,hb,h3⟩
theorem Own.kept{row:Option Nat}(h:Own e w base g n cap ps)(k:w.grownBy w' row)(hne:some g≠row):Own e w' base g n cap ps:=
 World.ownsRow.kept h k (Or.inr hne)
theorem Own.below{B:Nat}(h:Own e w base g n cap ps)(k:Below B w w')(hg:g<B):Own e w' base g n cap ps:=by
 refine⟨h.1,?_⟩
 rcases h.2 with⟨h1,_⟩|⟨g',c,cur,h1,h2,h3,h4⟩
 ·simp at h1
 ·obtain⟨e,_⟩:g=g'∧cap=c:=by simpa using h1
  subst e
  exact Or.inr ⟨g,c,cur,h1,h2,by rw[k.block g hg];exact h3,h4⟩
theorem Own.alloc(h:Own e w base g n cap ps)(o:Obj):Own e (w.alloc o) base g n cap ps:=World.ownsRow.alloc h o
theorem At.below{B:Nat}(h:At w g ps)(k:Below B w w')(hg:g<B):At w' g ps:=fun i hi=>
 ⟨(k.cell (p:=⟨g,i*2,none⟩) hg).trans (h i hi).1,(k.cell (p:=⟨g,i*2+1,none⟩) hg).trans (h i hi).2⟩
end
theorem next{a b c:World}(h:Below a.heap.size a b)(k:Below b.heap.size b c):Below a.heap.size a c:=h.trans (k.mono h.size)
theorem grown_trans{a b c:World}{row:Option Nat}(h:a.grownBy b row)(k:b.grownBy c row):a.grownBy c row:=
 ⟨k.os.trans h.os,k.tape.trans h.tape,k.output.trans h.output,Nat.le_trans h.size k.size,fun j hj hne=>(k.block j (Nat.lt_of_lt_of_le hj h.size) hne).trans (h.block j hj hne)⟩
theorem own_of_row{e:TypeId}{w:World}{base n n':Nat}{v:Value}{vs:List Value}{ps:List (Int×Int)}(h:w.ownsRow base e 2 v n vs)(hn:n=n')(hv:vs=flat ps)(hs:¬v= .slice none 0 0):
  ∃g c,v= .slice (some ⟨g,0,none⟩) n' c∧Own e w base g n' c ps:=by
 subst hn hv
 have h':=h
 rcases h.2 with⟨h1,_⟩|⟨g,c,cur,rfl,_⟩
 ·exact absurd h1 hs
 ·exact⟨g,c,rfl,h'⟩
theorem lit0(e:TypeId)(w:World)(base:Nat)(hb:base≤w.heap.size):Own e (w.alloc (.cells #[] e)) base w.heap.size 0 0 []:=World.ownsRow_lit w #[] 0 hb (by decide) rfl
theorem lit1(e:TypeId)(w:World)(base:Nat)(x y:Int)(hb:base≤w.heap.size):Own e (w.alloc (.cells #[.int .i64 x,.int .i64 y] e)) base w.heap.size 1 1 [(x,y)]:=World.ownsRow_lit w #[.int .i64 x,.int .i64 y] 1 hb (by decide) rfl
theorem At.cells{w:World}{g:Nat}{ps:List (Int×Int)}(h:At w g ps):∀(j:Nat) (u:Value),(flat ps)[j]?=some u→w.cell? ((⟨g,0,none⟩:Addr).add j)=some u:=by
 intro j u hj
 have hl:j<ps.length*2:=by
  have:=(List.getElem?_eq_some_iff.1 hj).1
  rw[flat_len] at this
  exact this
 rw[Addr.add_lit,Nat.zero_add]
 obtain⟨c0,c1⟩:=h (j/2) (by omega)
 obtain⟨f0,f1⟩:=flat_get ps (j/2) (by omega)
 rcases(show j%2=0∨j%2=1 by omega) with e|e
 ·rw[show j/2*2=j by omega] at c0 f0
  rw[c0,←hj,f0]
 ·rw[show j/2*2+1=j by omega] at c1 f1
  rw[c1,←hj,f1]
theorem below_drewN{B:Nat}{a w:World}(h:Below B a w)(m:Nat):Below B a (w.drewN m):=⟨h.os,h.tape,h.output,h.size,h.block⟩
end Pairs
namespace Draw
open Pairs
def CodeAt(w:World)(a:Option Addr)(len:Nat):Prop:=
 len=0∨∃(b off:Nat) (zs:List Int),a=some ⟨b,off,none⟩∧b<w.heap.size∧∀i,i<len→w.cell? ⟨b,off+i,none⟩=some (.int .u8 (zs.getD i 0))∧0≤zs.getD i 0∧zs.getD i 0≤255
theorem CodeAt.below{w w':World}{a:Option Addr}{len:Nat}(h:CodeAt w a len)(k:Below w.heap.size w w'):CodeAt w' a len:=by
 rcases h with h|⟨b,off,zs,rfl,hb,hc⟩
 ·exact Or.inl h
 ·exact Or.inr ⟨b,off,zs,rfl,Nat.lt_of_lt_of_le hb k.size,fun i hi=>⟨(k.cell (p:=⟨b,off+i,none⟩) hb).trans (hc i hi).1,(hc i hi).2⟩⟩
def In64(x:Int):Prop:= -9223372036854775808≤x∧x≤9223372036854775807
structure Cur(w0 w:World)(c:Nat)(a:Option Addr)(len cap:Nat):Prop where
 bel:Below w0.heap.size w0 w
 lo:w0.heap.size≤c
 hi:c<w.heap.size
 cb:w.cell? ⟨c,0,none⟩=some (.slice a len cap)
 ci:∃i:Nat,i≤len∧w.cell? ⟨c,1,none⟩=some (.int .i64 i)
 ch:∃h:Int,w.cell? ⟨c,2,none⟩=some (.int .i64 h)∧In64 h
 f1:w.frozen? ⟨c,1,none⟩=false
 f2:w.frozen? ⟨c,2,none⟩=false
theorem in64_wrap(n:Int):In64 (wrap64 n):=by unfold In64 wrap64;omega
theorem i64_and255(n:Int):bits BinOp.and IntKind.i64 n 255=n%256:=by
 have h1:(BitVec.ofInt 64 255).toNat=2^8-1:=by decide
 have key:(BitVec.ofInt 64 n&&&BitVec.ofInt 64 255).toNat=(n%((2^64:Nat):Int)).toNat%2^8:=by
  rw[BitVec.toNat_and,BitVec.toNat_ofInt,h1,Nat.and_two_pow_sub_one_eq_mod]
 show IntKind.i64.wrap ((BitVec.ofInt 64 n&&&BitVec.ofInt 64 255).toNat:Nat)=n%256
 rw[key,IntKind.wrap_i64]
 omega
theorem i64_and30(n:Int):bits BinOp.and IntKind.i64 n 1073741823=n%1073741824:=by
 have h1:(BitVec.ofInt 64 1073741823).toNat=2^30-1:=by decide
 have key:(BitVec.ofInt 64 n&&&BitVec.ofInt 64 1073741823).toNat=(n%((2^64:Nat):Int)).toNat%2^30:=by
  rw[BitVec.toNat_and,BitVec.toNat_ofInt,h1,Nat.and_two_pow_sub_one_eq_mod]
 show IntKind.i64.wrap ((BitVec.ofInt 64 n&&&BitVec.ofInt 64 1073741823).toNat:Nat)=n%1073741824
 rw[key,IntKind.wrap_i64]
 omega
def Only(c:Nat)(w w':World):Prop:=w.heap.size≤w'.heap.size∧∀k,k<w.heap.size→k≠c→w'.heap[k]?=w.heap[k]?
theorem Only.refl(c:Nat)(w:World):Only c w w:=⟨Nat.le_refl _,fun _ _ _=>rfl⟩
theorem Only.trans{c:Nat}{u v w:World}(h:Only c u v)(k:Only c v w):Only c u w:=
 ⟨Nat.le_trans h.1 k.1,fun i hi hc=>(k.2 i (Nat.lt_of_lt_of_le hi h.1) hc).trans (h.2 i hi hc)⟩
theorem Only.drew{c:Nat}{u w:World}(h:Only c u w):Only c u w.drew:=h
theorem Only.setCell{c:Nat}{u w:World}(h:Only c u w)(o:Nat)(v:Value):Only c u (w.setCell ⟨c,o,none⟩ v):=by
 refine⟨by simpa[World.setCell] using h.1,fun k hk hc=>?_⟩
 rw[Below.heap_setCell _ _ _ _ hc]
 exact h.2 k hk hc
theorem Only.cell{c:Nat}{w w':World}(h:Only c w w'){p:Addr}(hp:p.block<w.heap.size)(hc:p.block≠c):w'.cell? p=w.cell? p:=
 World.cell?_of_block (w:=w) (h.2 p.block hp hc)
theorem Cur.drew{w0 w:World}{c:Nat}{a:Option Addr}{len cap:Nat}(h:Cur w0 w c a len cap):Cur w0 w.drew c a len cap:=
 ⟨h.bel.drew,h.lo,h.hi,h.cb,h.ci,h.ch,h.f1,h.f2⟩
theorem Cur.setH{w0 w:World}{c:Nat}{a:Option Addr}{len cap:Nat}(h:Cur w0 w c a len cap)(x:Int)(hx:In64 x):Cur w0 (w.setCell ⟨c,2,none⟩ (.int .i64 x)) c a len cap:=by
 obtain⟨bel,lo,hi,cb,⟨i,hi1,ci⟩,⟨y,ch,hy⟩,f1,f2⟩:=h
 refine⟨bel.setCell lo _,lo,by simpa[World.setCell] using hi,?_,⟨i,hi1,?_⟩,⟨x,?_,hx⟩,?_,?_⟩
 ·exact(World.cell?_setCell_other _ _ _ _ (by simp)).trans cb
 ·exact(World.cell?_setCell_other _ _ _ _ (by simp)).trans ci
 ·exact World.cell?_setCell_same _ _ _ ch
 ·rw[World.frozen?_setCell];exact f1
 ·rw[World.frozen?_setCell];exact f2
theorem Cur.setI{w0 w:World}{c:Nat}{a:Option Addr}{len cap:Nat}(h:Cur w0 w c a len cap)(i:Nat)(hi':i≤len):Cur w0 (w.setCell ⟨c,1,none⟩ (.int .i64 i)) c a len cap:=by
 obtain⟨bel,lo,hi,cb,⟨j,hi1,ci⟩,⟨y,ch,hy⟩,f1,f2⟩:=h
 refine⟨bel.setCell lo _,lo,by simpa[World.setCell] using hi,?_,⟨i,hi',?_⟩,⟨y,?_,hy⟩,?_,?_⟩
 ·exact(World.cell?_setCell_other _ _ _ _ (by simp)).trans cb
 ·exact World.cell?_setCell_same _ _ _ ci
 ·exact(World.cell?_setCell_other _ _ _ _ (by simp)).trans ch
 ·rw[World.frozen?_setCell];exact f1
 ·rw[World.frozen?_setCell];exact f2
theorem byte(w0 w:World)(c:Nat)(a:Option Addr)(len cap:Nat)(hl:len≤1048576)(hcode:CodeAt w0 a len)(h:Cur w0 w c a len cap):
  Calls Tryz.prog 46 #[.pointer (some ⟨c,0,none⟩)] w fun e w'=>(∃x:Int,0≤x∧x≤255∧e= .returned (.int .i64 x))∧Cur w0 w' c a len cap∧Only c w w':=by
 have h':=zh h
 obtain⟨bel,lo,hi,cb,⟨i,hi1,ci⟩,⟨x,ch,hx⟩,f1,f2⟩:=h
 by_cases t:i<len
 ·rcases hcode with hz|⟨b,off,zs,rfl,hb,hcell⟩
  ·omega
  obtain⟨k1,k2,k3⟩:=hcell i t
  rw[←bel.cell (p:=⟨b,off+i,none⟩) hb] at k1
  generalize zs.getD i 0=z at k1 k2 k3
  have hne:¬b=c:=by omega
  clear hcell
  go_enter Tryz.func46,Tryz.ntmps46
  go_wp2
  go_region
  go_wp2
  go_region
  go_wp2
  go_region
  go_wp2
  go_ret
  refine⟨⟨_,?_,?_,rfl⟩,?_,?_⟩
  ·rw[i64_and255];omega
  ·rw[i64_and255];omega
  ·exact(((((zu h').setH _ (in64_wrap _)).setI (i+1) (by omega)).drew).drew).drew
  ·exact((((Only.refl c w).setCell 2 _).setCell 1 _).drew.drew).drew
 ·go_enter Tryz.func46,Tryz.ntmps46
  go_wp2
  go_region
  go_wp2
  go_region
  go_wp2
  go_ret
  refine⟨⟨_,?_,?_,rfl⟩,?_,?_⟩
  ·rw[i64_and255];omega
  ·rw[i64_and255];omega
  ·exact(((zu h').setH _ (in64_wrap _)).drew).drew
  ·exact(((Only.refl c w).setCell 2 _).drew).drew
def Moved(w0 w w':World)(c:Nat)(a:Option Addr)(len cap:Nat):Prop:=Cur w0 w' c a len cap∧Only c w w'
theorem Moved.trans{w0 u v w:World}{c:Nat}{a:Option Addr}{len cap:Nat}(h:Moved w0 u v c a len cap)(k:Moved w0 v w c a len cap):Moved w0 u w c a len cap:=
 ⟨k.1,h.2.trans k.2⟩
theorem below_small(w0 w:World)(c:Nat)(a:Option Addr)(len cap:Nat)(n:Int)(hl:len≤1048576)(hcode:CodeAt w0 a len)(h:Cur w0 w c a len cap)(n0:1≤n)(n1:n≤256):
  Calls Tryz.prog 31 #[.pointer (some ⟨c,0,none⟩),.int .i64 n] w fun e w'=>(∃x:Int,0≤x∧x<n∧e= .returned (.int .i64 x))∧Moved w0 w w' c a len cap:=by
 go_enter Tryz.func31,Tryz.ntmps31
 go_wp2_with fail
 refine(byte w0 w c a len cap hl hcode h).mono ?_
 rintro e w1 ⟨⟨x,x0,x1,rfl⟩,h1,o1⟩
 go_wp2
 go_ret
 refine⟨⟨_,?_,?_,rfl⟩,h1,o1⟩
 ·exact Int.emod_nonneg _ (by omega)
 ·exact Int.emod_lt_of_pos _ (by omega)
theorem below_big(w0 w:World)(c:Nat)(a:Option Addr)(len cap:Nat)(n:Int)(hl:len≤1048576)(hcode:CodeAt w0 a len)(h:Cur w0 w c a len cap)(n0:257≤n):
  Calls Tryz.prog 31 #[.pointer (some ⟨c,0,none⟩),.int .i64 n] w fun e w'=>(∃x:Int,0≤x∧x<n∧e= .returned (.int .i64 x))∧Moved w0 w w' c a len cap:=by
 go_enter Tryz.func31,Tryz.ntmps31
 go_wp2_with fail
 refine(byte w0 w c a len cap hl hcode h).mono ?_
 rintro e w1 ⟨⟨x1,x10,x11,rfl⟩,h1,o1⟩
 go_wp2_with fail
 refine(byte w0 w1 c a len cap hl hcode h1).mono ?_
 rintro e w2 ⟨⟨x2,x20,x21,rfl⟩,h2,o2⟩
 go_wp2_with fail
 refine(byte w0 w2 c a len cap hl hcode h2).mono ?_
 rintro e w3 ⟨⟨x3,x30,x31,rfl⟩,h3,o3⟩
 go_wp2_with fail
 refine(byte w0 w3 c a len cap hl hcode h3).mono ?_
 rintro e w4 ⟨⟨x4,x40,x41,rfl⟩,h4,o4⟩
 go_wp2
 go_ret
 refine⟨⟨_,?_,?_,rfl⟩,h4,((o1.trans o2).trans o3).trans o4⟩
 ·exact Int.emod_nonneg _ (by omega)
 ·exact Int.emod_lt_of_pos _ (by omega)
theorem below(w0 w:World)(c:Nat)(a:Option Addr)(len cap:Nat)(n:Int)(hl:len≤1048576)(hcode:CodeAt w0 a len)(h:Cur w0 w c a len cap)(n0:1≤n):
  Calls Tryz.prog 31 #[.pointer (some ⟨c,0,none⟩),.int .i64 n] w fun e w'=>(∃x:Int,0≤x∧x<n∧e= .returned (.int .i64 x))∧Moved w0 w w' c a len cap:=by
 by_cases k:n≤256
 ·exact below_small w0 w c a len cap n hl hcode h n0 k
 ·exact below_big w0 w c a len cap n hl hcode h (by omega)
theorem once(w0 w:World)(c:Nat)(a:Option Addr)(len cap:Nat)(n:Int)(hl:len≤1048576)(hcode:CodeAt w0 a len)(h:Cur w0 w c a len cap)(n0:1≤n):
  Calls Tryz.prog 27 #[.pointer (some ⟨c,0,none⟩),.int .i64 n] w fun e w'=>(∃t:Bool,e= .returned (.bool t))∧Moved w0 w w' c a len cap:=by
 go_enter Tryz.func27,Tryz.ntmps27
 go_wp2_with fail
 refine(below w0 w c a len cap n hl hcode h n0).mono ?_
 rintro e w1 ⟨⟨x,x0,x1,rfl⟩,h1⟩
 go_wp2
 go_ret
 exact⟨⟨_,rfl⟩,h1⟩
theorem laid(w:World)(a:Option Addr)(len cap:Nat)(x:Int)(hx:In64 x):
  Cur w (w.alloc (Obj.cells #[Value.slice a len cap,Value.int IntKind.i64 0,Value.int IntKind.i64 x] 66)) w.heap.size a len cap:=by
 refine⟨(Below.refl _ _).alloc (Nat.le_refl _) _,Nat.le_refl _,by simp,?_,⟨0,by omega,?_⟩,⟨x,?_,hx⟩,?_,?_⟩
 ·rw[World.cell?_alloc_at _ _ _ _ rfl];rfl
 ·rw[World.cell?_alloc_at _ _ _ _ rfl];rfl
 ·rw[World.cell?_alloc_at _ _ _ _ rfl];rfl
 ·rw[World.frozen?_alloc_at _ _ _ _ rfl]
 ·rw[World.frozen?_alloc_at _ _ _ _ rfl]
theorem new(w:World)(a:Option Addr)(len cap:Nat)(hl:len≤1048576)(hcode:CodeAt w a len):
  Calls Tryz.prog 13 #[.slice a len cap] w fun e w'=>∃c,e= .returned (.pointer (some ⟨c,0,none⟩))∧Cur w w' c a len cap:=by
 go_enter Tryz.func13,Tryz.ntmps13
 go_wp2
 go_loop [3,4] (fun h i=>∃(k:Nat) (x:Int),k≤len∧i= .int .i64 k∧h= .int .i64 x∧0≤x∧x≤1073741823)
  (fun _ i=>len-(intOf i).toNat)
 case atStart=>exact⟨0,11029+len,by omega,rfl,rfl,by omega,by omega⟩
 case round=>
  obtain⟨k,x,hk,rfl,rfl,x0,x1⟩:=hrel
  by_cases t:k<len
  ·rcases hcode with hz|⟨b,off,zs,rfl,hb,hcell⟩
   ·omega
   obtain⟨k1,k2,k3⟩:=hcell k t
   generalize zs.getD k 0=z at k1 k2 k3
   clear hcell
   by_cases s:k<4000
   ·go_wp2
    go_round
    case rel=>exact⟨k+1,_,by omega,by go_num,rfl,by rw[i64_and30];omega,by rw[i64_and30];omega⟩
    case measure=>simp[intOf];omega
   ·go_wp2
    go_ret
    exact⟨_,rfl,laid w _ len cap x (by unfold In64;omega)⟩
  ·go_wp2
   go_ret
   exact⟨_,rfl,laid w _ len cap x (by unfold In64;omega)⟩
theorem pick(w0 w:World)(c:Nat)(a:Option Addr)(len cap s m:Nat)(ks:Nat→Int)(hl:len≤1048576)(hcode:CodeAt w0 a len)(h:Cur w0 w c a len cap)(m0:1≤m)(m1:m≤1048576)(hs:s<w.heap.size)(hc:s≠c)
  (hk:∀j,j<m→w.cell? ⟨s,j,none⟩=some (.int .i64 (ks j))):
  Calls Tryz.prog 33 #[.pointer (some ⟨c,0,none⟩),.slice (some ⟨s,0,none⟩) m m] w fun e w'=>(∃j,j<m∧e= .returned (.int .i64 (ks j)))∧Moved w0 w w' c a len cap:=by
 go_enter Tryz.func33,Tryz.ntmps33
 go_wp2_with fail
 refine(below w0 w c a len cap m hl hcode h (by omega)).mono ?_
 rintro e w1 ⟨⟨x,x0,x1,rfl⟩,h1,o1⟩
 obtain⟨k,rfl⟩:=Int.eq_ofNat_of_zero_le x0
 have hc1:=(o1.cell (p:=⟨s,k,none⟩) hs hc).trans (hk k (by omega))
 clear hk
 go_wp2
 go_ret
 exact⟨⟨k,by omega,rfl⟩,h1,o1⟩
theorem Cur.alloc{w0 w:World}{c:Nat}{a:Option Addr}{len cap:Nat}(h:Cur w0 w c a len cap)(cs:Array Value)(t:TypeId):Cur w0 (w.alloc (.cells cs t)) c a len cap:=by
 obtain⟨bel,lo,hi,cb,⟨i,hi1,ci⟩,⟨y,ch,hy⟩,f1,f2⟩:=h
 have f (o:Nat):(w.alloc (.cells cs t)).frozen? ⟨c,o,none⟩=w.frozen? ⟨c,o,none⟩:=frozen?_alloc_cells _ _ _ _
 refine⟨bel.alloc bel.size _,lo,by simp;omega,?_,⟨i,hi1,?_⟩,⟨y,?_,hy⟩,(f 1).trans f1,(f 2).trans f2⟩
 ·rw[World.cell?_alloc_past _ _ _ hi];exact cb
 ·rw[World.cell?_alloc_past _ _ _ hi];exact ci
 ·rw[World.cell?_alloc_past _ _ _ hi];exact ch
theorem Only.alloc{c:Nat}{u w:World}(h:Only c u w)(o:Obj):Only c u (w.alloc o):=by
 refine⟨by simp;have:=h.1;omega,fun k hk hc=>?_⟩
 rw[Below.heap_alloc _ _ _ (Nat.lt_of_lt_of_le hk h.1)]
 exact h.2 k hk hc
theorem Moved.alloc{w0 w:World}{c:Nat}{a:Option Addr}{len cap:Nat}(h:Cur w0 w c a len cap)(cs:Array Value)(t:TypeId):Moved w0 w (w.alloc (.cells cs t)) c a len cap:=
 ⟨Cur.alloc h cs t,Only.alloc (Only.refl c w) _⟩
theorem cur_grown{w0 w w':World}{c g:Nat}{a:Option Addr}{len cap:Nat}(h:Cur w0 w c a len cap)(k:w.grownBy w' (some g))(hg:w0.heap.size≤g)(hne:g≠c):Cur w0 w' c a len cap:=by
 obtain⟨bel,lo,hi,cb,⟨i,hi1,ci⟩,⟨y,ch,hy⟩,f1,f2⟩:=h
 have e:w'.heap[c]?=w.heap[c]?:=k.block c hi (by simpa using Ne.symm hne)
 have ec (o:Nat):w'.cell? ⟨c,o,none⟩=w.cell? ⟨c,o,none⟩:=World.cell?_of_block (w:=w) e
 have ef (o:Nat):w'.frozen? ⟨c,o,none⟩=w.frozen? ⟨c,o,none⟩:=World.frozen?_of_block (w:=w) e
 exact⟨bel.grown k bel.size (by simpa using hg),lo,Nat.lt_of_lt_of_le hi k.size,(ec 0).trans cb,⟨i,hi1,(ec 1).trans ci⟩,⟨y,(ec 2).trans ch,hy⟩,(ef 1).trans f1,(ef 2).trans f2⟩
theorem cur_below{w0 w w':World}{c:Nat}{a:Option Addr}{len cap:Nat}(h:Cur w0 w c a len cap)(k:Below w.heap.size w w'):Cur w0 w' c a len cap:=by
 obtain⟨bel,lo,hi,cb,⟨i,hi1,ci⟩,⟨y,ch,hy⟩,f1,f2⟩:=h
 exact⟨Pairs.next bel k,lo,Nat.lt_of_lt_of_le hi k.size,(k.cell (p:=⟨c,0,none⟩) hi).trans cb,⟨i,hi1,(k.cell (p:=⟨c,1,none⟩) hi).trans ci⟩,⟨y,(k.cell (p:=⟨c,2,none⟩) hi).trans ch,hy⟩,
  (k.frozen (p:=⟨c,1,none⟩) hi).trans f1,(k.frozen (p:=⟨c,2,none⟩) hi).trans f2⟩
def of3(x y z:Int)(j:Nat):Int:=if j=0 then x else if j=1 then y else z
def of4(x y z u:Int)(j:Nat):Int:=if j=0 then x else if j=1 then y else if j=2 then z else u
theorem of3_cells(w:World)(t:TypeId)(x y z:Int)(j:Nat)(hj:j<3):(w.alloc (Obj.cells #[Value.int .i64 x,Value.int .i64 y,Value.int .i64 z] t)).cell? ⟨w.heap.size,j,none⟩=some (.int .i64 (of3 x y z j)):=by
 rw[World.cell?_alloc_at _ _ _ _ rfl]
 match j,hj with
 |0,_=>rfl
 |1,_=>rfl
 |2,_=>rfl
theorem of4_cells(w:World)(t:TypeId)(x y z u:Int)(j:Nat)(hj:j<4):(w.alloc (Obj.cells #[Value.int .i64 x,Value.int .i64 y,Value.int .i64 z,Value.int .i64 u] t)).cell? ⟨w.heap.size,j,none⟩=some (.int .i64 (of4 x y z u j)):=by
 rw[World.cell?_alloc_at _ _ _ _ rfl]
 match j,hj with
 |0,_=>rfl
 |1,_=>rfl
 |2,_=>rfl
 |3,_=>rfl
theorem drawNo(w0 w:World)(c:Nat)(a:Option Addr)(len cap:Nat)(hl:len≤1048576)(hcode:CodeAt w0 a len)(h:Cur w0 w c a len cap):
  Calls Tryz.prog 58 #[.pointer (some ⟨c,0,none⟩)] w fun e w'=>(∃x:Int,e= .returned (.int .i64 x))∧Moved w0 w w' c a len cap:=by
 go_enter Tryz.func58,Tryz.ntmps58
 go_wp2_with fail
 refine(once w0 w c a len cap 15 hl hcode h (by omega)).mono ?_
 rintro e w1 ⟨⟨t,rfl⟩,h1⟩
 cases t
 ·go_wp2_with fail
  refine(below w0 w1 c a len cap 9 hl hcode h1.1 (by omega)).mono ?_
  rintro e w2 ⟨⟨y,y0,y1,rfl⟩,h2⟩
  go_wp2
  go_ret
  exact⟨⟨_,rfl⟩,Moved.trans h1 h2⟩
 ·go_wp2_with fail
  have hi1:=h1.1.hi
  refine(pick w0 _ c a len cap w1.heap.size 4 (of4 0 (-1) 1000 1001) hl hcode (Cur.alloc h1.1 _ _) (by omega) (by omega) (by simp) (by omega) (of4_cells w1 3 _ _ _ _)).mono ?_
  rintro e w2 ⟨⟨j,hj,rfl⟩,h2⟩
  have hm:=Moved.trans (Moved.trans h1 (Moved.alloc h1.1 _ 3)) h2
  generalize of4 0 (-1) 1000 1001 j=y at *
  clear h2 h1
  go_wp2
  go_ret
  exact⟨⟨_,rfl⟩,hm⟩
end Draw
namespace SBytes
theorem zh{p:Prop}(h:p):Hid p:=h
theorem zu{p:Prop}(h:Hid p):p:=h
def AtB(w:World)(g:Nat)(xs:List Int):Prop:=∀i,i<xs.length→w.cell? ⟨g,i,none⟩=some (.int .u8 (xs.getD i 0))∧0≤xs.getD i 0∧xs.getD i 0≤255
theorem AtB.below{w w':World}{g B:Nat}{xs:List Int}(h:AtB w g xs)(k:Below B w w')(hg:g<B):AtB w' g xs:=fun i hi=>⟨(k.cell (p:=⟨g,i,none⟩) hg).trans (h i hi).1,(h i hi).2⟩
def val(xs:List Int)(at':Nat):Nat→Int
 |0=>0
 |k+1=>val xs at' k+xs.getD (at'+k) 0%128*128^k
def getF(xs:List Int)(at':Nat):Nat→Nat→Int×Int×Bool
 |0,_=>(0,0,false)
 |f+1,k=>if at'+k<xs.length then(if xs.getD (at'+k) 0<128 then(if xs.getD (at'+k) 0=0∧0<k then(0,0,false) else(val xs at' (k+1),((at'+k+1:Nat):Int),true)) else getF xs at' f (k+1)) else(0,0,false)
def getN(xs:List Int)(at':Int):Int×Int×Bool:=if at'<0∨(xs.length:Int)≤at' then(0,0,false) else getF xs at'.toNat 9 0
theorem pow_le(k:Nat)(h:k≤8):1≤(128:Int)^k∧(128:Int)^k≤72057594037927936:=by
 have:k=0∨k=1∨k=2∨k=3∨k=4∨k=5∨k=6∨k=7∨k=8:=by omega
 rcases this with rfl|rfl|rfl|rfl|rfl|rfl|rfl|rfl|rfl<;>decide
theorem pow_more(k:Nat):(128:Int)^(k+1)=128^k*128:=Int.pow_succ 128 k
theorem val_in(xs:List Int)(at' k:Nat):0≤val xs at' k∧val xs at' k<128^k:=by
 induction k with
 |zero=>simp[val]
 |succ k ih=>
  have p:(0:Int)≤128^k:=by omega
  have d0:0≤xs.getD (at'+k) 0%128:=by omega
  have d1:xs.getD (at'+k) 0%128≤127:=by omega
  have m0:=Int.mul_nonneg d0 p
  have m1:=Int.mul_le_mul_of_nonneg_right d1 p
  rw[pow_more]
  simp only[val]
  omega
theorem sGetNum(w:World)(g cap:Nat)(xs:List Int)(at':Int)(h20:xs.length≤1048576)(hr:AtB w g xs):
  Calls Tryz.prog 25 #[.slice (some ⟨g,0,none⟩) xs.length cap,.int .i64 at'] w fun e w'=>e= .returned (.tuple #[.int .i64 (getN xs at').1,.int .i64 (getN xs at').2.1,.bool (getN xs at').2.2])∧w'=w:=by
 have R:=zh hr
 clear hr
 by_cases p0:at'<0
 ·have e:getN xs at'=(0,0,false):=by unfold getN;rw[if_pos (.inl p0)]
  rw[e]
  clear e
  go_enter Tryz.func25,Tryz.ntmps25
  go_wp2
  go_ret3
  exact⟨rfl,rfl⟩
 by_cases p1:(xs.length:Int)≤at'
 ·have e:getN xs at'=(0,0,false):=by unfold getN;rw[if_pos (.inr p1)]
  rw[e]
  clear e
  go_enter Tryz.func25,Tryz.ntmps25
  go_wp2
  go_ret3
  exact⟨rfl,rfl⟩
 obtain⟨n,rfl⟩:∃n:Nat,at'=n:=⟨at'.toNat,by omega⟩
 have E0:=zh (show getN xs n=getF xs n 9 0 from by unfold getN;rw[if_neg (by omega)];simp)
 have p2:n<xs.length:=by omega
 generalize getN xs n=r at *
 obtain⟨r0,r1,r2⟩:=r
 go_enter Tryz.func25,Tryz.ntmps25
 go_wp2
 clear p0 p1
 go_loopw [7,8,9,10] (fun a u i _ wr=>∃(k:Nat) (x v:Int),k≤9∧i= .int .i64 k∧a= .int .i64 x∧u= .int .i64 v∧Hid (x=val xs n k)∧Hid (k≤8→v=128^k)∧Hid ((r0,r1,r2)=getF xs n (9-k) k)∧wr=w) (fun _ _ i _ _=>9-(intOf i).toNat)
 case atStart=>exact⟨0,0,1,by omega,rfl,rfl,rfl,rfl,zh (fun _=>rfl),E0,rfl⟩
 case round=>
  obtain⟨k,x,v,hk,rfl,rfl,rfl,HX,HV,HE,rfl⟩:=hrel
  clear E0
  by_cases t:k=9
  ·subst t
   have F:=zu HE
   simp only[Nat.sub_self,getF] at F
   injection F with F0 F
   injection F with F1 F2
   subst F0 F1 F2
   clear HX HV HE
   go_wp2
   go_ret3
   exact⟨rfl,rfl⟩
  by_cases t1:n+k<xs.length
  case neg=>
   have F:=zu HE
   rw[show 9-k=(9-(k+1))+1 by omega] at F
   simp only[getF] at F
   rw[if_neg t1] at F
   injection F with F0 F
   injection F with F1 F2
   subst F0 F1 F2
   have a0:wrap64 ((n:Int)+(k:Int))=n+k:=by rw[wrap64];omega
   have a1:¬((n:Int)+k<xs.length):=by omega
   have a2:(k:Int)<9:=by omega
   clear HX HV HE t1 t hk
   go_wp2
   go_ret3
   exact⟨rfl,rfl⟩
  obtain⟨d,d0,d1⟩:=(zu R) (n+k) t1
  have hv:=(zu HV) (by omega)
  have V1:=zh (show x+xs.getD (n+k) 0%128*v=val xs n (k+1) from by rw[zu HX,hv];rfl)
  have V2:=zh (show k+1≤8→v*128=128^(k+1) from fun _=>by rw[hv,pow_more])
  have XI:=zh (show 0≤x∧x<v from by have q:=val_in xs n k;rw[←hv,←zu HX] at q;exact q)
  have ST:=zh (show(r0,r1,r2)=if xs.getD (n+k) 0<128 then(if xs.getD (n+k) 0=0∧0<k then(0,0,false) else(val xs n (k+1),((n+k+1:Nat):Int),true)) else getF xs n (9-(k+1)) (k+1) from by
   rw[zu HE,show 9-k=(9-(k+1))+1 by omega]
   simp only[getF]
   rw[if_pos t1])
  rw[←zu V1] at ST
  clear HX HV HE
  generalize xs.getD (n+k) 0=y at *
  have Y:=zh (show 0≤y∧y≤255 from⟨d0,d1⟩)
  have a0:wrap64 ((n:Int)+(k:Int))=n+k:=by rw[wrap64];omega
  have a1:(n:Int)+k<xs.length:=by omega
  have a2:(k:Int)<9:=by omega
  have a3:wrap64 y=y:=by rw[wrap64];omega
  have b1:y.tmod 128=y%128:=Int.tmod_eq_emod_of_nonneg d0
  have b2:wrap64 (y%128)=y%128:=by rw[wrap64];omega
  have pv:=pow_le k (by omega)
  rw[←hv] at pv
  have m0:=Int.mul_nonneg (show 0≤y%128 by omega) (show 0≤v by omega)
  have m1:=Int.mul_le_mul_of_nonneg_right (show y%128≤127 by omega) (show 0≤v by omega)
  have xi:=zu XI
  have b3:wrap64 (y%128*v)=y%128*v:=by
   generalize y%128*v=m at *
   rw[wrap64];omega
  have b4:wrap64 (x+y%128*v)=x+y%128*v:=by
   generalize y%128*v=m at *
   rw[wrap64];omega
  have b5:wrap64 ((n:Int)+k+1)=n+k+1:=by rw[wrap64];omega
  have b6:=zh (show k+1≤8→wrap64 (v*128)=v*128 from fun _=>by
   have:=pow_le (k+1) (by omega)
   rw[pow_more,←hv] at this
   rw[wrap64];omega)
  have B:=zh (And.intro b1 (And.intro b2 (And.intro b3 (And.intro b4 b5))))
  clear hv d0 d1 t t1 pv m0 m1 xi XI b1 b2 b3 b4 b5
  by_cases y1:y<128
  ·by_cases y2:y=0
   ·by_cases k0:0<k
    ·have F:=zu ST
     rw[if_pos y1,if_pos ⟨y2,k0⟩] at F
     injection F with F0 F
     injection F with F1 F2
     subst F0 F1 F2
     subst y2
     have k1:(0:Int)<k:=by omega
     clear ST V1 V2 hk
     go_wp2
     go_ret3
     exact⟨rfl,rfl⟩
    ·have F:=zu ST
     rw[if_pos y1,if_neg (fun h=>k0 h.2)] at F
     injection F with F0 F
     injection F with F1 F2
     subst F0 F1 F2
     subst y2
     have k1:¬(0:Int)<k:=by omega
     clear ST V1 V2 hk
     go_wp2
     go_ret3
     obtain⟨b1,b2,b3,b4,b5⟩:=zu B
     simp at b4
     exact⟨by simp[b4,b5],rfl⟩
   ·have F:=zu ST
    rw[if_pos y1,if_neg (fun h=>y2 h.1)] at F
    injection F with F0 F
    injection F with F1 F2
    subst F0 F1 F2
    have y3:(y==0)=false:=by simp[y2]
    clear ST V1 V2 hk y2
    go_wp2
    go_ret3
    obtain⟨b1,b2,b3,b4,b5⟩:=zu B
    exact⟨by simp[b1,b2,b3,b4,b5],rfl⟩
  ·have F:=zu ST
   rw[if_neg y1] at F
   have HF:=zh F
   clear ST F
   go_wp2
   go_roundw
   case rel=>
    obtain⟨b1,b2,b3,b4,b5⟩:=zu B
    exact⟨k+1,x+y%128*v,wrap64 (v*128),by omega,by go_num,by simp[b1,b2,b3,b4],rfl,V1,zh (fun h=>by rw[(zu b6) h];exact(zu V2) h),HF,trivial⟩
   case measure=>simp[intOf];omega
end SBytes
namespace ByteH
theorem info8:(Tryz.prog.info? 5).map (fun i=>(i.zero,i.size,i.bytes))=some (some (.int .u8 0),1,1):=by kernel_rfl
def At(w:World)(g:Nat)(xs:List Int):Prop:=∀i,i<xs.length→w.cell? ⟨g,i,none⟩=some (.int .u8 (xs.getD i 0))
def Reads(w:World)(a:Option Addr)(xs:List Int):Prop:=
 xs.length=0∨∃b off,a=some ⟨b,off,none⟩∧b<w.heap.size∧∀i,i<xs.length→w.cell? ⟨b,off+i,none⟩=some (.int .u8 (xs.getD i 0))
def Own(w:World)(base g n cap:Nat)(xs:List Int):Prop:=w.ownsRow base 5 1 (.slice (some ⟨g,0,none⟩) n cap) n (xs.map (Value.int .u8))
theorem Own.len{w:World}{base g n cap:Nat}{xs:List Int}(h:Own w base g n cap xs):xs.length=n:=by
 have:=h.1
 simpa using this
theorem Own.lt{w:World}{base g n cap:Nat}{xs:List Int}(h:Own w base g n cap xs):base≤g∧g<w.heap.size:=World.ownsRow.lt h g rfl
theorem Own.at{w:World}{base g n cap:Nat}{xs:List Int}(h:Own w base g n cap xs):At w g xs:=by
 intro i hi
 have hl:=h.len
 have:=World.ownsRow.cellAt h i (by omega)
 rw[this]
 simp[List.getD,hi]
theorem Own.free{w:World}{base g n cap:Nat}{xs:List Int}(h:Own w base g n cap xs)(i:Nat):w.frozen? ⟨g,i,none⟩=false:=World.ownsRow.frozenAt h i
theorem Own.mono{w:World}{base base' g n cap:Nat}{xs:List Int}(h:Own w base g n cap xs)(hb:base'≤base):Own w base' g n cap xs:=by
 refine⟨h.1,?_⟩
 rcases h.2 with⟨h1,_⟩|⟨g',c,cur,h1,h2,h3⟩
 ·simp at h1
 ·exact Or.inr ⟨g',c,cur,h1,Nat.le_trans hb h2,h3⟩
theorem Own.below{w w':World}{base g n cap B:Nat}{xs:List Int}(h:Own w base g n cap xs)(k:Below B w w')(hg:g<B):Own w' base g n cap xs:=by
 refine⟨h.1,?_⟩
 rcases h.2 with⟨h1,_⟩|⟨g',c,cur,h1,h2,h3,h4⟩
 ·simp at h1
 ·obtain⟨e,_⟩:g=g'∧cap=c:=by simpa using h1
  subst e
  exact Or.inr ⟨g,c,cur,h1,h2,by rw[k.block g hg];exact h3,h4⟩
theorem Own.set{w:World}{base g n cap:Nat}{xs:List Int}(h:Own w base g n cap xs)(i:Nat)(x:Int):
  Own (w.setCell ⟨g,i,none⟩ (.int .u8 x)) base g n cap (xs.set i x)∧w.grownBy (w.setCell ⟨g,i,none⟩ (.int .u8 x)) (some g):=by
 have:=World.ownsRow.stored h i (.int .u8 x)
 refine⟨?_,this.2⟩
 unfold Own
 rw[List.map_set]
 exact this.1
theorem getD_take(xs:List Int)(k i:Nat)(h:i<k):(xs.take k).getD i 0=xs.getD i 0:=by
 simp[List.getD,h]
def In(xs:List Int):Prop:=∀i,i<xs.length→0≤xs.getD i 0∧xs.getD i 0≤255
end ByteH
namespace Ints
theorem zh{p:Prop}(h:p):Hid p:=h
theorem zu{p:Prop}(h:Hid p):p:=h
theorem info3:(Tryz.prog.info? 3).map (fun i=>(i.zero,i.size,i.bytes))=some (some (.int .i64 0),1,8):=by kernel_rfl
def At(w:World)(g:Nat)(xs:List Int):Prop:=∀i,i<xs.length→w.cell? ⟨g,i,none⟩=some (.int .i64 (xs.getD i 0))
def Own(w:World)(base g n cap:Nat)(xs:List Int):Prop:=w.ownsRow base 3 1 (.slice (some ⟨g,0,none⟩) n cap) n (xs.map (Value.int .i64))
theorem Own.len{w:World}{base g n cap:Nat}{xs:List Int}(h:Own w base g n cap xs):xs.length=n:=by
 have:=h.1
 simpa using this
theorem Own.lt{w:World}{base g n cap:Nat}{xs:List Int}(h:Own w base g n cap xs):base≤g∧g<w.heap.size:=World.ownsRow.lt h g rfl
theorem Own.at{w:World}{base g n cap:Nat}{xs:List Int}(h:Own w base g n cap xs):At w g xs:=by
 intro i hi
 have hl:=h.len
 have:=World.ownsRow.cellAt h i (by omega)
 rw[this]
 simp[List.getD,hi]
theorem Own.free{w:World}{base g n cap:Nat}{xs:List Int}(h:Own w base g n cap xs)(i:Nat):w.frozen? ⟨g,i,none⟩=false:=World.ownsRow.frozenAt h i
theorem Own.mono{w:World}{base base' g n cap:Nat}{xs:List Int}(h:Own w base g n cap xs)(hb:base'≤base):Own w base' g n cap xs:=by
 refine⟨h.1,?_⟩
 rcases h.2 with⟨h1,_⟩|⟨g',c,cur,h1,h2,h3⟩
 ·simp at h1
 ·exact Or.inr ⟨g',c,cur,h1,Nat.le_trans hb h2,h3⟩
theorem Own.rebase{w:World}{base base' g n cap:Nat}{xs:List Int}(h:Own w base g n cap xs)(hb:base'≤g):Own w base' g n cap xs:=by
 refine⟨h.1,?_⟩
 rcases h.2 with⟨h1,_⟩|⟨g',c,cur,h1,h2,h3⟩
 ·simp at h1
 ·obtain⟨e,_⟩:g=g'∧cap=c:=by simpa using h1
  subst e
  exact Or.inr ⟨g,c,cur,h1,hb,h3⟩
theorem Own.kept{w w':World}{base g n cap:Nat}{xs:List Int}{row:Option Nat}(h:Own w base g n cap xs)(k:w.grownBy w' row)(hne:some g≠row):Own w' base g n cap xs:=
 World.ownsRow.kept h k (Or.inr hne)
theorem Own.below{w w':World}{base g n cap B:Nat}{xs:List Int}(h:Own w base g n cap xs)(k:Below B w w')(hg:g<B):Own w' base g n cap xs:=by
 refine⟨h.1,?_⟩
 rcases h.2 with⟨h1,_⟩|⟨g',c,cur,h1,h2,h3,h4⟩
 ·simp at h1
 ·obtain⟨e,_⟩:g=g'∧cap=c:=by simpa using h1
  subst e
  exact Or.inr ⟨g,c,cur,h1,h2,by rw[k.block g hg];exact h3,h4⟩
theorem At.below{w w':World}{g B:Nat}{xs:List Int}(h:At w g xs)(k:Below B w w')(hg:g<B):At w' g xs:=fun i hi=>(k.cell (p:=⟨g,i,none⟩) hg).trans (h i hi)
theorem next{a b c:World}(h:Below a.heap.size a b)(k:Below b.heap.size b c):Below a.heap.size a c:=h.trans (k.mono h.size)
theorem Own.set{w:World}{base g n cap:Nat}{xs:List Int}(h:Own w base g n cap xs)(i:Nat)(x:Int):
  Own (w.setCell ⟨g,i,none⟩ (.int .i64 x)) base g n cap (xs.set i x)∧w.grownBy (w.setCell ⟨g,i,none⟩ (.int .i64 x)) (some g):=by
 have:=World.ownsRow.stored h i (.int .i64 x)
 refine⟨?_,this.2⟩
 unfold Own
 rw[List.map_set]
 exact this.1
theorem getD_take(xs:List Int)(k i:Nat)(h:i<k):(xs.take k).getD i 0=xs.getD i 0:=by
 simp[List.getD,h]
def part(xs:List Int)(n k:Nat):List Int:=xs.take k++List.replicate (n-k) 0
theorem part_zero(xs:List Int)(n:Nat):part xs n 0=List.replicate n 0:=by simp[part]
theorem part_all(xs:List Int)(n:Nat)(h:xs.length=n):part xs n n=xs:=by
 unfold part
 rw[←h];simp
theorem part_step(xs:List Int)(n k:Nat)(h:xs.length=n)(hk:k<n):(part xs n k).set k (xs.getD k 0)=part xs n (k+1):=by
 subst h
 unfold part
 apply List.ext_getElem?
 intro j
 have l1:(xs.take k).length=k:=by simp;omega
 have l2:(xs.take (k+1)).length=k+1:=by simp;omega
 rw[List.getElem?_set]
 by_cases e:k=j
 ·subst e
  rw[if_pos rfl,if_pos (by simp;omega),List.getElem?_append_left (by omega),List.getElem?_take,if_pos (by omega)]
  simp[List.getD,hk]
 ·rw[if_neg e]
  by_cases l:j<k
  ·rw[List.getElem?_append_left (by omega),List.getElem?_append_left (by omega),List.getElem?_take,List.getElem?_take,if_pos l,if_pos (by omega)]
  ·rw[List.getElem?_append_right (by omega),List.getElem?_append_right (by omega),l1,l2]
   simp only[List.getElem?_replicate]
   congr 1
   ·simp;omega
def IsRow(k:IntKind)(w:World)(a:Option Addr)(len cap:Nat)(zs:List Int):Prop:=
 (a=none∧len=0∧cap=0∧zs=[])∨
 ∃x,a=some x∧len≤cap∧cap≤maxLen∧zs.length=cap∧(∀i,i<zs.length→w.cell? (x.add i)=some (.int k (zs.getD i 0)))∧∀n∈zs,(Lit.int k n).wf=true
end Ints
namespace VOI
open Ints (Own At zh zu)
def Ob(w:World)(base:Nat)(a:Option Addr)(n cap:Nat)(xs:List Int):Prop:=w.ownsRow base 3 1 (.slice a n cap) n (xs.map (Value.int .i64))
theorem Ob.of{w:World}{base g n cap:Nat}{xs:List Int}(h:Own w base g n cap xs):Ob w base (some ⟨g,0,none⟩) n cap xs:=h
theorem Ob.nil(w:World)(base:Nat):Ob w base none 0 0 []:=World.ownsRow_nil w base _ _
section
variable {w w':World} {base n cap:Nat} {a:Option Addr} {xs:List Int}
theorem Ob.len(h:Ob w base a n cap xs):xs.length=n:=by have:=h.1;simpa using this
theorem Ob.either(h:Ob w base a n cap xs):(a=none∧n=0∧xs=[])∨∃g,a=some ⟨g,0,none⟩∧Own w base g n cap xs:=by
 have hl:=h.len
 rcases h.2 with⟨h1,_⟩|⟨g,c,cur,h1,_⟩
 ·have:a=none∧n=0∧cap=0:=by simpa using h1
  obtain⟨rfl,rfl,rfl⟩:=this
  exact .inl ⟨rfl,rfl,List.eq_nil_of_length_eq_zero hl⟩
 ·have:a=some ⟨g,0,none⟩∧cap=c:=by simpa using h1
  obtain⟨rfl,rfl⟩:=this
  exact .inr ⟨g,rfl,h⟩
def Btw(lo hi:Nat)(a:Option Addr):Prop:=∀x,a=some x→lo≤x.block∧x.block<hi
theorem Ob.btw(h:Ob w base a n cap xs):Btw base w.heap.size a:=by
 intro x hx
 rcases h.either with⟨rfl,_⟩|⟨g,rfl,o⟩
 ·cases hx
 ·cases hx;exact o.lt
theorem Btw.mono{lo hi lo' hi':Nat}(h:Btw lo hi a)(h1:lo'≤lo)(h2:hi≤hi'):Btw lo' hi' a:=fun x hx=>⟨Nat.le_trans h1 (h x hx).1,Nat.lt_of_lt_of_le (h x hx).2 h2⟩
theorem Ob.below{B:Nat}(h:Ob w base a n cap xs)(k:Below B w w')(hb:Btw 0 B a):Ob w' base a n cap xs:=by
 rcases h.either with⟨rfl,rfl,rfl⟩|⟨g,rfl,o⟩
 ·refine⟨h.1,?_⟩
  rcases h.2 with h|⟨g,c,cur,h1,_⟩
  ·exact .inl h
  ·simp at h1
 ·exact o.below k (hb _ rfl).2
theorem Ob.step(h:Ob w base a n cap xs)(k:Below w.heap.size w w'):Ob w' base a n cap xs:=h.below k (h.btw.mono (Nat.zero_le _) (Nat.le_refl _))
end
def blk(a:Option Addr):Option Nat:=a.map (·.block)
theorem blk_ne{a:Option Addr}{lo hi k:Nat}(h:Btw lo hi a)(hk:k<lo∨hi≤k):some k≠blk a:=by
 cases a with
 |none=>simp[blk]
 |some x=>
  have:=h x rfl
  simp[blk]
  omega
end VOI
namespace VOB
open ByteH (Own At)
def Ob(w:World)(base:Nat)(a:Option Addr)(n cap:Nat)(xs:List Int):Prop:=w.ownsRow base 5 1 (.slice a n cap) n (xs.map (Value.int .u8))
theorem Ob.of{w:World}{base g n cap:Nat}{xs:List Int}(h:Own w base g n cap xs):Ob w base (some ⟨g,0,none⟩) n cap xs:=h
section
variable {w w':World} {base n cap:Nat} {a:Option Addr} {xs:List Int}
theorem Ob.len(h:Ob w base a n cap xs):xs.length=n:=by have:=h.1;simpa using this
theorem Ob.either(h:Ob w base a n cap xs):(a=none∧n=0∧xs=[])∨∃g,a=some ⟨g,0,none⟩∧Own w base g n cap xs:=by
 have hl:=h.len
 rcases h.2 with⟨h1,_⟩|⟨g,c,cur,h1,_⟩
 ·have:a=none∧n=0∧cap=0:=by simpa using h1
  obtain⟨rfl,rfl,rfl⟩:=this
  exact .inl ⟨rfl,rfl,List.eq_nil_of_length_eq_zero hl⟩
 ·have:a=some ⟨g,0,none⟩∧cap=c:=by simpa using h1
  obtain⟨rfl,rfl⟩:=this
  exact .inr ⟨g,rfl,h⟩
def Btw(lo hi:Nat)(a:Option Addr):Prop:=∀x,a=some x→lo≤x.block∧x.block<hi
theorem Ob.btw(h:Ob w base a n cap xs):Btw base w.heap.size a:=by
 intro x hx
 rcases h.either with⟨rfl,_⟩|⟨g,rfl,o⟩
 ·cases hx
 ·cases hx;exact o.lt
theorem Btw.mono{lo hi lo' hi':Nat}(h:Btw lo hi a)(h1:lo'≤lo)(h2:hi≤hi'):Btw lo' hi' a:=fun x hx=>⟨Nat.le_trans h1 (h x hx).1,Nat.lt_of_lt_of_le (h x hx).2 h2⟩
theorem Ob.mono{base':Nat}(h:Ob w base a n cap xs)(hb:base'≤base):Ob w base' a n cap xs:=by
 rcases h.either with⟨rfl,rfl,rfl⟩|⟨g,rfl,o⟩
 ·refine⟨h.1,?_⟩
  rcases h.2 with h|⟨g,c,cur,h1,_⟩
  ·exact .inl h
  ·simp at h1
 ·exact o.mono hb
theorem Ob.below{B:Nat}(h:Ob w base a n cap xs)(k:Below B w w')(hb:Btw 0 B a):Ob w' base a n cap xs:=by
 rcases h.either with⟨rfl,rfl,rfl⟩|⟨g,rfl,o⟩
 ·refine⟨h.1,?_⟩
  rcases h.2 with h|⟨g,c,cur,h1,_⟩
  ·exact .inl h
  ·simp at h1
 ·exact o.below k (hb _ rfl).2
theorem Ob.step(h:Ob w base a n cap xs)(k:Below w.heap.size w w'):Ob w' base a n cap xs:=h.below k (h.btw.mono (Nat.zero_le _) (Nat.le_refl _))
end
end VOB
namespace Law11
theorem row_bytes{w:World}{a:Option Addr}{len cap:Nat}{zs:List Int}(h:Ints.IsRow .u8 w a len cap zs):(zs.take len).length=len∧ByteH.Reads w a (zs.take len)∧ByteH.In (zs.take len)∧len≤9223372036854775807:=by
 rcases h with⟨rfl,rfl,rfl,rfl⟩|⟨x,rfl,hl,hm,hz,hcell,hwz⟩
 ·exact⟨rfl,.inl rfl,fun i hi=>absurd hi (by simp),by omega⟩
 ·have hlen:(zs.take len).length=len:=by simp;omega
  have hin:ByteH.In (zs.take len):=fun i hi=>by
   rw[hlen] at hi
   rw[ByteH.getD_take zs len i hi]
   have hj:i<zs.length:=by omega
   have:=hwz (zs.getD i 0) (by simp[List.getD,hj])
   have e0:IntKind.u8.min=0:=rfl
   have e1:IntKind.u8.max=255:=rfl
   simp only[Lit.wf,e0,e1,Bool.and_eq_true,decide_eq_true_eq] at this
   exact this
  refine⟨hlen,?_,hin,by unfold maxLen at hm;omega⟩
  by_cases z:len=0
  ·exact .inl (by omega)
  ·obtain⟨b,off,spot⟩:=x
   have hc:=hcell 0 (by omega)
   have hspot:spot=none:=by simpa[Addr.add] using World.cell?_spot hc
   subst hspot
   have hc0:w.cell? ⟨b,off,none⟩=some (.int .u8 (zs.getD 0 0)):=by simpa[Addr.add] using hc
   refine .inr ⟨b,off,rfl,World.block_lt_of_cell? w _ hc0,fun i hi=>?_⟩
   have k:=hcell i (by omega)
   rw[ByteH.getD_take zs len i (by omega)]
   by_cases z:i=0
   ·subst z;simpa[Addr.add] using k
   ·simpa[Addr.add,z] using k
end Law11
namespace Tup5
theorem zh{p:Prop}(h:p):Hid p:=h
theorem zu{p:Prop}(h:Hid p):p:=h
abbrev T5:Type:=Int×Int×Int×Int×Int
abbrev el5(ps:List T5)(i:Nat):T5:=ps.getD i (0,0,0,0,0)
def flat5(ps:List T5):List Value:=ps.flatMap fun p=>[.int .i64 p.1,.int .i64 p.2.1,.int .i64 p.2.2.1,.int .i64 p.2.2.2.1,.int .i64 p.2.2.2.2]
theorem flat5_cons(p:T5)(ps:List T5):flat5 (p::ps)= .int .i64 p.1:: .int .i64 p.2.1:: .int .i64 p.2.2.1:: .int .i64 p.2.2.2.1:: .int .i64 p.2.2.2.2::flat5 ps:=rfl
theorem flat5_append(ps qs:List T5):flat5 (ps++qs)=flat5 ps++flat5 qs:=by simp[flat5,List.flatMap_append]
theorem flat5_len(ps:List T5):(flat5 ps).length=ps.length*5:=by
 induction ps with
 |nil=>rfl
 |cons p ps ih=>rw[flat5_cons];simp[ih];omega
theorem flat5_get(ps:List T5):∀i,i<ps.length→(flat5 ps)[i*5]?=some (.int .i64 (el5 ps i).1)∧(flat5 ps)[i*5+1]?=some (.int .i64 (el5 ps i).2.1)∧(flat5 ps)[i*5+2]?=some (.int .i64 (el5 ps i).2.2.1)∧(flat5 ps)[i*5+3]?=some (.int .i64 (el5 ps i).2.2.2.1)∧(flat5 ps)[i*5+4]?=some (.int .i64 (el5 ps i).2.2.2.2):=by
 induction ps with
 |nil=>intro i h;simp at h
 |cons p ps ih=>
  intro i h
  cases i with
  |zero=>rw[flat5_cons];simp
  |succ i=>
   have:=ih i (by simpa using h)
   rw[flat5_cons,show(i+1)*5=i*5+5 by omega,show i*5+5+1=(i*5+1)+5 by omega,show i*5+5+2=(i*5+2)+5 by omega,show i*5+5+3=(i*5+3)+5 by omega,show i*5+5+4=(i*5+4)+5 by omega]
   simpa using this
theorem flat5_one(u:Value)(ps:List T5)(h:u∈flat5 ps):u.oneCell'=true:=by
 induction ps with
 |nil=>simp[flat5] at h
 |cons p ps ih=>
  rw[flat5_cons] at h
  simp only[List.mem_cons] at h
  rcases h with rfl|rfl|rfl|rfl|rfl|h
  ·rfl
  ·rfl
  ·rfl
  ·rfl
  ·rfl
  ·exact ih h
theorem flat5_set(ps:List T5):∀(i:Nat) (x:Int),(flat5 ps).set (i*5) (.int .i64 x)=flat5 (ps.modify i fun p=>(x,p.2.1,p.2.2.1,p.2.2.2.1,p.2.2.2.2))∧(flat5 ps).set (i*5+1) (.int .i64 x)=flat5 (ps.modify i fun p=>(p.1,x,p.2.2.1,p.2.2.2.1,p.2.2.2.2))∧(flat5 ps).set (i*5+2) (.int .i64 x)=flat5 (ps.modify i fun p=>(p.1,p.2.1,x,p.2.2.2.1,p.2.2.2.2))∧(flat5 ps).set (i*5+3) (.int .i64 x)=flat5 (ps.modify i fun p=>(p.1,p.2.1,p.2.2.1,x,p.2.2.2.2))∧(flat5 ps).set (i*5+4) (.int .i64 x)=flat5 (ps.modify i fun p=>(p.1,p.2.1,p.2.2.1,p.2.2.2.1,x)):=by
 induction ps with
 |nil=>intro i x;simp[flat5]
 |cons p ps ih=>
  intro i x
  cases i with
  |zero=>simp[flat5_cons]
  |succ i=>
   obtain⟨a0,a1,a2,a3,a4⟩:=ih i x
   refine⟨?_,?_,?_,?_,?_⟩
   ·rw[flat5_cons,show(i+1)*5=i*5+1+1+1+1+1 by omega,List.set_cons_succ,List.set_cons_succ,List.set_cons_succ,List.set_cons_succ,List.set_cons_succ,a0,List.modify_succ_cons,flat5_cons]
   ·rw[flat5_cons,show(i+1)*5+1=i*5+1+1+1+1+1+1 by omega,List.set_cons_succ,List.set_cons_succ,List.set_cons_succ,List.set_cons_succ,List.set_cons_succ,a1,List.modify_succ_cons,flat5_cons]
   ·rw[flat5_cons,show(i+1)*5+2=i*5+2+1+1+1+1+1 by omega,List.set_cons_succ,List.set_cons_succ,List.set_cons_succ,List.set_cons_succ,List.set_cons_succ,a2,List.modify_succ_cons,flat5_cons]
   ·rw[flat5_cons,show(i+1)*5+3=i*5+3+1+1+1+1+1 by omega,List.set_cons_succ,List.set_cons_succ,List.set_cons_succ,List.set_cons_succ,List.set_cons_succ,a3,List.modify_succ_cons,flat5_cons]
   ·rw[flat5_cons,show(i+1)*5+4=i*5+4+1+1+1+1+1 by omega,List.set_cons_succ,List.set_cons_succ,List.set_cons_succ,List.set_cons_succ,List.set_cons_succ,a4,List.modify_succ_cons,flat5_cons]
def Holds5(w:World)(g o:Nat)(p:T5):Prop:=w.cell? ⟨g,o,none⟩=some (.int .i64 p.1)∧w.cell? ⟨g,o+1,none⟩=some (.int .i64 p.2.1)∧w.cell? ⟨g,o+2,none⟩=some (.int .i64 p.2.2.1)∧w.cell? ⟨g,o+3,none⟩=some (.int .i64 p.2.2.2.1)∧w.cell? ⟨g,o+4,none⟩=some (.int .i64 p.2.2.2.2)
def At5(w:World)(g:Nat)(ps:List T5):Prop:=∀i,i<ps.length→Holds5 w g (i*5) (el5 ps i)
def Own5(e:TypeId)(w:World)(base g n cap:Nat)(ps:List T5):Prop:=w.ownsRow base e 5 (.slice (some ⟨g,0,none⟩) n cap) n (flat5 ps)
section
variable {e:TypeId} {w w':World} {base base' g n cap:Nat} {ps:List T5}
theorem Holds5.below{B o:Nat}{p:T5}(h:Holds5 w g o p)(k:Below B w w')(hg:g<B):Holds5 w' g o p:=
 ⟨(k.cell (p:=⟨g,o,none⟩) hg).trans h.1,(k.cell (p:=⟨g,o+1,none⟩) hg).trans h.2.1,(k.cell (p:=⟨g,o+2,none⟩) hg).trans h.2.2.1,(k.cell (p:=⟨g,o+3,none⟩) hg).trans h.2.2.2.1,(k.cell (p:=⟨g,o+4,none⟩) hg).trans h.2.2.2.2⟩
theorem Own5.len(h:Own5 e w base g n cap ps):ps.length=n:=by
 have:=h.1
 rw[flat5_len] at this
 omega
theorem Own5.lt(h:Own5 e w base g n cap ps):base≤g∧g<w.heap.size:=World.ownsRow.lt h g rfl
theorem Own5.at(h:Own5 e w base g n cap ps):At5 w g ps:=by
 intro i hi
 have hl:=h.len
 obtain⟨f0,f1,f2,f3,f4⟩:=flat5_get ps i hi
 exact⟨(World.ownsRow.cellAt h (i*5) (by omega)).trans f0,(World.ownsRow.cellAt h (i*5+1) (by omega)).trans f1,(World.ownsRow.cellAt h (i*5+2) (by omega)).trans f2,(World.ownsRow.cellAt h (i*5+3) (by omega)).trans f3,(World.ownsRow.cellAt h (i*5+4) (by omega)).trans f4⟩
theorem Own5.free(h:Own5 e w base g n cap ps)(i:Nat):w.frozen? ⟨g,i,none⟩=false:=World.ownsRow.frozenAt h i
theorem Own5.rebase(h:Own5 e w base g n cap ps)(hb:base'≤g):Own5 e w base' g n cap ps:=by
 refine⟨h.1,?_⟩
 rcases h.2 with⟨h1,_⟩|⟨g',c,cur,h1,h2,h3⟩
 ·simp at h1
 ·obtain⟨e,_⟩:g=g'∧cap=c:=by simpa using h1
  subst e
  exact Or.inr ⟨g,c,cur,h1,hb,h3⟩
theorem Own5.kept{row:Option Nat}(h:Own5 e w base g n cap ps)(k:w.grownBy w' row)(hne:some g≠row):Own5 e w' base g n cap ps:=
 World.ownsRow.kept h k (Or.inr hne)
theorem Own5.below{B:Nat}(h:Own5 e w base g n cap ps)(k:Below B w w')(hg:g<B):Own5 e w' base g n cap ps:=by
 refine⟨h.1,?_⟩
 rcases h.2 with⟨h1,_⟩|⟨g',c,cur,h1,h2,h3,h4⟩
 ·simp at h1
 ·obtain⟨e,_⟩:g=g'∧cap=c:=by simpa using h1
  subst e
  exact Or.inr ⟨g,c,cur,h1,h2,by rw[k.block g hg];exact h3,h4⟩
theorem Own5.alloc(h:Own5 e w base g n cap ps)(o:Obj):Own5 e (w.alloc o) base g n cap ps:=World.ownsRow.alloc h o
theorem Own5.drew(h:Own5 e w base g n cap ps):Own5 e w.drew base g n cap ps:=h
theorem At5.below{B:Nat}(h:At5 w g ps)(k:Below B w w')(hg:g<B):At5 w' g ps:=fun i hi=>(h i hi).below k hg
theorem Own5.set3(h:Own5 e w base g n cap ps)(i:Nat)(x:Int):
  Own5 e (w.setCell ⟨g,i*5+3,none⟩ (.int .i64 x)) base g n cap (ps.modify i fun p=>(p.1,p.2.1,p.2.2.1,x,p.2.2.2.2))∧w.grownBy (w.setCell ⟨g,i*5+3,none⟩ (.int .i64 x)) (some g):=by
 have:=World.ownsRow.stored h (i*5+3) (.int .i64 x)
 refine⟨?_,this.2⟩
 unfold Own5
 rw[←(flat5_set ps i x).2.2.2.1]
 exact this.1
theorem Own5.set4(h:Own5 e w base g n cap ps)(i:Nat)(x:Int):
  Own5 e (w.setCell ⟨g,i*5+4,none⟩ (.int .i64 x)) base g n cap (ps.modify i fun p=>(p.1,p.2.1,p.2.2.1,p.2.2.2.1,x))∧w.grownBy (w.setCell ⟨g,i*5+4,none⟩ (.int .i64 x)) (some g):=by
 have:=World.ownsRow.stored h (i*5+4) (.int .i64 x)
 refine⟨?_,this.2⟩
 unfold Own5
 rw[←(flat5_set ps i x).2.2.2.2]
 exact this.1
end
theorem next{a b c:World}(h:Below a.heap.size a b)(k:Below b.heap.size b c):Below a.heap.size a c:=h.trans (k.mono h.size)
theorem own5_of_row{e:TypeId}{w:World}{base n n':Nat}{v:Value}{vs:List Value}{ps:List T5}(h:w.ownsRow base e 5 v n vs)(hn:n=n')(hv:vs=flat5 ps)(hs:¬v= .slice none 0 0):
  ∃g c,v= .slice (some ⟨g,0,none⟩) n' c∧Own5 e w base g n' c ps:=by
 subst hn hv
 have h':=h
 rcases h.2 with⟨h1,_⟩|⟨g,c,cur,rfl,_⟩
 ·exact absurd h1 hs
 ·exact⟨g,c,rfl,h'⟩
theorem lit50(e:TypeId)(w:World)(base:Nat)(hb:base≤w.heap.size):Own5 e (w.alloc (.cells #[] e)) base w.heap.size 0 0 []:=World.ownsRow_lit w #[] 0 hb (by decide) rfl
theorem lit51(e:TypeId)(w:World)(base:Nat)(x0 x1 x2 x3 x4:Int)(hb:base≤w.heap.size):Own5 e (w.alloc (.cells #[.int .i64 x0,.int .i64 x1,.int .i64 x2,.int .i64 x3,.int .i64 x4] e)) base w.heap.size 1 1 [(x0,x1,x2,x3,x4)]:=World.ownsRow_lit w #[.int .i64 x0,.int .i64 x1,.int .i64 x2,.int .i64 x3,.int .i64 x4] 1 hb (by decide) rfl
theorem At5.cells{w:World}{g:Nat}{ps:List T5}(h:At5 w g ps):∀(j:Nat) (u:Value),(flat5 ps)[j]?=some u→w.cell? ((⟨g,0,none⟩:Addr).add j)=some u:=by
 intro j u hj
 have hl:j<ps.length*5:=by
  have:=(List.getElem?_eq_some_iff.1 hj).1
  rw[flat5_len] at this
  exact this
 rw[Addr.add_lit,Nat.zero_add]
 obtain⟨c0,c1,c2,c3,c4⟩:=h (j/5) (by omega)
 obtain⟨f0,f1,f2,f3,f4⟩:=flat5_get ps (j/5) (by omega)
 rcases(show j%5=0∨j%5=1∨j%5=2∨j%5=3∨j%5=4 by omega) with e|e|e|e|e
 ·rw[show j/5*5=j by omega] at c0 f0
  rw[c0,←hj,f0]
 ·rw[show j/5*5+1=j by omega] at c1 f1
  rw[c1,←hj,f1]
 ·rw[show j/5*5+2=j by omega] at c2 f2
  rw[c2,←hj,f2]
 ·rw[show j/5*5+3=j by omega] at c3 f3
  rw[c3,←hj,f3]
 ·rw[show j/5*5+4=j by omega] at c4 f4
  rw[c4,←hj,f4]
theorem grown_trans{a b c:World}{row:Option Nat}(h:a.grownBy b row)(k:b.grownBy c row):a.grownBy c row:=
 ⟨k.os.trans h.os,k.tape.trans h.tape,k.output.trans h.output,Nat.le_trans h.size k.size,fun j hj hne=>(k.block j (Nat.lt_of_lt_of_le hj h.size) hne).trans (h.block j hj hne)⟩
theorem below_drewN{B:Nat}{a w:World}(h:Below B a w)(m:Nat):Below B a (w.drewN m):=⟨h.os,h.tape,h.output,h.size,h.block⟩
theorem getD_mem{ps:List T5}{i:Nat}(h:i<ps.length):el5 ps i∈ps:=by
 unfold el5
 simp only[List.getD,List.getElem?_eq_getElem h,Option.getD_some]
 exact List.getElem_mem h
theorem mem_getD{ps:List T5}{p:T5}(h:p∈ps):∃i,i<ps.length∧el5 ps i=p:=by
 obtain⟨i,hi,e⟩:=List.getElem_of_mem h
 refine⟨i,hi,?_⟩
 unfold el5
 simp[List.getD,hi,e]
theorem take_next{ps:List T5}{k:Nat}(h:k<ps.length):ps.take (k+1)=ps.take k++[el5 ps k]:=by
 rw[List.take_add_one]
 simp[List.getD,h]
theorem drop_next{ps:List T5}{k:Nat}(h:k<ps.length):ps.drop k=el5 ps k::ps.drop (k+1):=by
 rw[List.drop_eq_getElem_cons h]
 simp[el5,List.getD,h]
end Tup5
namespace Tup8
abbrev T8:Type:=Int×Int×Int×Int×Int×Int×Int×Int
abbrev el8(ps:List T8)(i:Nat):T8:=ps.getD i (0,0,0,0,0,0,0,0)
def flat8(ps:List T8):List Value:=ps.flatMap fun p=>[.int .i64 p.1,.int .i64 p.2.1,.int .i64 p.2.2.1,.int .i64 p.2.2.2.1,.int .i64 p.2.2.2.2.1,.int .i64 p.2.2.2.2.2.1,.int .i64 p.2.2.2.2.2.2.1,.int .i64 p.2.2.2.2.2.2.2]
theorem flat8_cons(p:T8)(ps:List T8):flat8 (p::ps)= .int .i64 p.1:: .int .i64 p.2.1:: .int .i64 p.2.2.1:: .int .i64 p.2.2.2.1:: .int .i64 p.2.2.2.2.1:: .int .i64 p.2.2.2.2.2.1:: .int .i64 p.2.2.2.2.2.2.1:: .int .i64 p.2.2.2.2.2.2.2::flat8 ps:=rfl
theorem flat8_append(ps qs:List T8):flat8 (ps++qs)=flat8 ps++flat8 qs:=by simp[flat8,List.flatMap_append]
theorem flat8_len(ps:List T8):(flat8 ps).length=ps.length*8:=by
 induction ps with
 |nil=>rfl
 |cons p ps ih=>rw[flat8_cons];simp[ih];omega
theorem flat8_get(ps:List T8):∀i,i<ps.length→(flat8 ps)[i*8]?=some (.int .i64 (el8 ps i).1)∧(flat8 ps)[i*8+1]?=some (.int .i64 (el8 ps i).2.1)∧(flat8 ps)[i*8+2]?=some (.int .i64 (el8 ps i).2.2.1)∧(flat8 ps)[i*8+3]?=some (.int .i64 (el8 ps i).2.2.2.1)∧(flat8 ps)[i*8+4]?=some (.int .i64 (el8 ps i).2.2.2.2.1)∧(flat8 ps)[i*8+5]?=some (.int .i64 (el8 ps i).2.2.2.2.2.1)∧(flat8 ps)[i*8+6]?=some (.int .i64 (el8 ps i).2.2.2.2.2.2.1)∧(flat8 ps)[i*8+7]?=some (.int .i64 (el8 ps i).2.2.2.2.2.2.2):=by
 induction ps with
 |nil=>intro i h;simp at h
 |cons p ps ih=>
  intro i h
  cases i with
  |zero=>rw[flat8_cons];simp
  |succ i=>
   have:=ih i (by simpa using h)
   rw[flat8_cons,show(i+1)*8=i*8+8 by omega,show i*8+8+1=(i*8+1)+8 by omega,show i*8+8+2=(i*8+2)+8 by omega,show i*8+8+3=(i*8+3)+8 by omega,show i*8+8+4=(i*8+4)+8 by omega,show i*8+8+5=(i*8+5)+8 by omega,show i*8+8+6=(i*8+6)+8 by omega,show i*8+8+7=(i*8+7)+8 by omega]
   simpa using this
theorem flat8_one(u:Value)(ps:List T8)(h:u∈flat8 ps):u.oneCell'=true:=by
 induction ps with
 |nil=>simp[flat8] at h
 |cons p ps ih=>
  rw[flat8_cons] at h
  simp only[List.mem_cons] at h
  rcases h with rfl|rfl|rfl|rfl|rfl|rfl|rfl|rfl|h
  ·rfl
  ·rfl
  ·rfl
  ·rfl
  ·rfl
  ·rfl
  ·rfl
  ·rfl
  ·exact ih h
theorem flat8_set(ps:List T8):∀(i:Nat) (x:Int),(flat8 ps).set (i*8) (.int .i64 x)=flat8 (ps.modify i fun p=>(x,p.2.1,p.2.2.1,p.2.2.2.1,p.2.2.2.2.1,p.2.2.2.2.2.1,p.2.2.2.2.2.2.1,p.2.2.2.2.2.2.2))∧(flat8 ps).set (i*8+1) (.int .i64 x)=flat8 (ps.modify i fun p=>(p.1,x,p.2.2.1,p.2.2.2.1,p.2.2.2.2.1,p.2.2.2.2.2.1,p.2.2.2.2.2.2.1,p.2.2.2.2.2.2.2))∧(flat8 ps).set (i*8+2) (.int .i64 x)=flat8 (ps.modify i fun p=>(p.1,p.2.1,x,p.2.2.2.1,p.2.2.2.2.1,p.2.2.2.2.2.1,p.2.2.2.2.2.2.1,p.2.2.2.2.2.2.2))∧(flat8 ps).set (i*8+3) (.int .i64 x)=flat8 (ps.modify i fun p=>(p.1,p.2.1,p.2.2.1,x,p.2.2.2.2.1,p.2.2.2.2.2.1,p.2.2.2.2.2.2.1,p.2.2.2.2.2.2.2))∧(flat8 ps).set (i*8+4) (.int .i64 x)=flat8 (ps.modify i fun p=>(p.1,p.2.1,p.2.2.1,p.2.2.2.1,x,p.2.2.2.2.2.1,p.2.2.2.2.2.2.1,p.2.2.2.2.2.2.2))∧(flat8 ps).set (i*8+5) (.int .i64 x)=flat8 (ps.modify i fun p=>(p.1,p.2.1,p.2.2.1,p.2.2.2.1,p.2.2.2.2.1,x,p.2.2.2.2.2.2.1,p.2.2.2.2.2.2.2))∧(flat8 ps).set (i*8+6) (.int .i64 x)=flat8 (ps.modify i fun p=>(p.1,p.2.1,p.2.2.1,p.2.2.2.1,p.2.2.2.2.1,p.2.2.2.2.2.1,x,p.2.2.2.2.2.2.2))∧(flat8 ps).set (i*8+7) (.int .i64 x)=flat8 (ps.modify i fun p=>(p.1,p.2.1,p.2.2.1,p.2.2.2.1,p.2.2.2.2.1,p.2.2.2.2.2.1,p.2.2.2.2.2.2.1,x)):=by
 induction ps with
 |nil=>intro i x;simp[flat8]
 |cons p ps ih=>
  intro i x
  cases i with
  |zero=>simp[flat8_cons]
  |succ i=>
   obtain⟨a0,a1,a2,a3,a4,a5,a6,a7⟩:=ih i x
   refine⟨?_,?_,?_,?_,?_,?_,?_,?_⟩
   ·rw[flat8_cons,show(i+1)*8=i*8+1+1+1+1+1+1+1+1 by omega,List.set_cons_succ,List.set_cons_succ,List.set_cons_succ,List.set_cons_succ,List.set_cons_succ,List.set_cons_succ,List.set_cons_succ,List.set_cons_succ,a0,List.modify_succ_cons,flat8_cons]
   ·rw[flat8_cons,show(i+1)*8+1=i*8+1+1+1+1+1+1+1+1+1 by omega,List.set_cons_succ,List.set_cons_succ,List.set_cons_succ,List.set_cons_succ,List.set_cons_succ,List.set_cons_succ,List.set_cons_succ,List.set_cons_succ,a1,List.modify_succ_cons,flat8_cons]
   ·rw[flat8_cons,show(i+1)*8+2=i*8+2+1+1+1+1+1+1+1+1 by omega,List.set_cons_succ,List.set_cons_succ,List.set_cons_succ,List.set_cons_succ,List.set_cons_succ,List.set_cons_succ,List.set_cons_succ,List.set_cons_succ,a2,List.modify_succ_cons,flat8_cons]
   ·rw[flat8_cons,show(i+1)*8+3=i*8+3+1+1+1+1+1+1+1+1 by omega,List.set_cons_succ,List.set_cons_succ,List.set_cons_succ,List.set_cons_succ,List.set_cons_succ,List.set_cons_succ,List.set_cons_succ,List.set_cons_succ,a3,List.modify_succ_cons,flat8_cons]
   ·rw[flat8_cons,show(i+1)*8+4=i*8+4+1+1+1+1+1+1+1+1 by omega,List.set_cons_succ,List.set_cons_succ,List.set_cons_succ,List.set_cons_succ,List.set_cons_succ,List.set_cons_succ,List.set_cons_succ,List.set_cons_succ,a4,List.modify_succ_cons,flat8_cons]
   ·rw[flat8_cons,show(i+1)*8+5=i*8+5+1+1+1+1+1+1+1+1 by omega,List.set_cons_succ,List.set_cons_succ,List.set_cons_succ,List.set_cons_succ,List.set_cons_succ,List.set_cons_succ,List.set_cons_succ,List.set_cons_succ,a5,List.modify_succ_cons,flat8_cons]
   ·rw[flat8_cons,show(i+1)*8+6=i*8+6+1+1+1+1+1+1+1+1 by omega,List.set_cons_succ,List.set_cons_succ,List.set_cons_succ,List.set_cons_succ,List.set_cons_succ,List.set_cons_succ,List.set_cons_succ,List.set_cons_succ,a6,List.modify_succ_cons,flat8_cons]
   ·rw[flat8_cons,show(i+1)*8+7=i*8+7+1+1+1+1+1+1+1+1 by omega,List.set_cons_succ,List.set_cons_succ,List.set_cons_succ,List.set_cons_succ,List.set_cons_succ,List.set_cons_succ,List.set_cons_succ,List.set_cons_succ,a7,List.modify_succ_cons,flat8_cons]
def Holds8(w:World)(g o:Nat)(p:T8):Prop:=w.cell? ⟨g,o,none⟩=some (.int .i64 p.1)∧w.cell? ⟨g,o+1,none⟩=some (.int .i64 p.2.1)∧w.cell? ⟨g,o+2,none⟩=some (.int .i64 p.2.2.1)∧w.cell? ⟨g,o+3,none⟩=some (.int .i64 p.2.2.2.1)∧w.cell? ⟨g,o+4,none⟩=some (.int .i64 p.2.2.2.2.1)∧w.cell? ⟨g,o+5,none⟩=some (.int .i64 p.2.2.2.2.2.1)∧w.cell? ⟨g,o+6,none⟩=some (.int .i64 p.2.2.2.2.2.2.1)∧w.cell? ⟨g,o+7,none⟩=some (.int .i64 p.2.2.2.2.2.2.2)
def At8(w:World)(g:Nat)(ps:List T8):Prop:=∀i,i<ps.length→Holds8 w g (i*8) (el8 ps i)
def Own8(e:TypeId)(w:World)(base g n cap:Nat)(ps:List T8):Prop:=w.ownsRow base e 8 (.slice (some ⟨g,0,none⟩) n cap) n (flat8 ps)
section
variable {e:TypeId} {w w':World} {base base' g n cap:Nat} {ps:List T8}
theorem Holds8.below{B o:Nat}{p:T8}(h:Holds8 w g o p)(k:Below B w w')(hg:g<B):Holds8 w' g o p:=
 ⟨(k.cell (p:=⟨g,o,none⟩) hg).trans h.1,(k.cell (p:=⟨g,o+1,none⟩) hg).trans h.2.1,(k.cell (p:=⟨g,o+2,none⟩) hg).trans h.2.2.1,(k.cell (p:=⟨g,o+3,none⟩) hg).trans h.2.2.2.1,(k.cell (p:=⟨g,o+4,none⟩) hg).trans h.2.2.2.2.1,(k.cell (p:=⟨g,o+5,none⟩) hg).trans h.2.2.2.2.2.1,(k.cell (p:=⟨g,o+6,none⟩) hg).trans h.2.2.2.2.2.2.1,(k.cell (p:=⟨g,o+7,none⟩) hg).trans h.2.2.2.2.2.2.2⟩
theorem Own8.len(h:Own8 e w base g n cap ps):ps.length=n:=by
 have:=h.1
 rw[flat8_len] at this
 omega
theorem Own8.lt(h:Own8 e w base g n cap ps):base≤g∧g<w.heap.size:=World.ownsRow.lt h g rfl
theorem Own8.at(h:Own8 e w base g n cap ps):At8 w g ps:=by
 intro i hi
 have hl:=h.len
 obtain⟨f0,f1,f2,f3,f4,f5,f6,f7⟩:=flat8_get ps i hi
 exact⟨(World.ownsRow.cellAt h (i*8) (by omega)).trans f0,(World.ownsRow.cellAt h (i*8+1) (by omega)).trans f1,(World.ownsRow.cellAt h (i*8+2) (by omega)).trans f2,(World.ownsRow.cellAt h (i*8+3) (by omega)).trans f3,(World.ownsRow.cellAt h (i*8+4) (by omega)).trans f4,(World.ownsRow.cellAt h (i*8+5) (by omega)).trans f5,(World.ownsRow.cellAt h (i*8+6) (by omega)).trans f6,(World.ownsRow.cellAt h (i*8+7) (by omega)).trans f7⟩
theorem Own8.free(h:Own8 e w base g n cap ps)(i:Nat):w.frozen? ⟨g,i,none⟩=false:=World.ownsRow.frozenAt h i
theorem Own8.rebase(h:Own8 e w base g n cap ps)(hb:base'≤g):Own8 e w base' g n cap ps:=by
 refine⟨h.1,?_⟩
 rcases h.2 with⟨h1,_⟩|⟨g',c,cur,h1,h2,h3⟩
 ·simp at h1
 ·obtain⟨e,_⟩:g=g'∧cap=c:=by simpa using h1
  subst e
  exact Or.inr ⟨g,c,cur,h1,hb,h3⟩
theorem Own8.kept{row:Option Nat}(h:Own8 e w base g n cap ps)(k:w.grownBy w' row)(hne:some g≠row):Own8 e w' base g n cap ps:=
 World.ownsRow.kept h k (Or.inr hne)
theorem Own8.below{B:Nat}(h:Own8 e w base g n cap ps)(k:Below B w w')(hg:g<B):Own8 e w' base g n cap ps:=by
 refine⟨h.1,?_⟩
 rcases h.2 with⟨h1,_⟩|⟨g',c,cur,h1,h2,h3,h4⟩
 ·simp at h1
 ·obtain⟨e,_⟩:g=g'∧cap=c:=by simpa using h1
  subst e
  exact Or.inr ⟨g,c,cur,h1,h2,by rw[k.block g hg];exact h3,h4⟩
theorem Own8.alloc(h:Own8 e w base g n cap ps)(o:Obj):Own8 e (w.alloc o) base g n cap ps:=World.ownsRow.alloc h o
theorem At8.below{B:Nat}(h:At8 w g ps)(k:Below B w w')(hg:g<B):At8 w' g ps:=fun i hi=>(h i hi).below k hg
theorem Own8.set7(h:Own8 e w base g n cap ps)(i:Nat)(x:Int):
  Own8 e (w.setCell ⟨g,i*8+7,none⟩ (.int .i64 x)) base g n cap (ps.modify i fun p=>(p.1,p.2.1,p.2.2.1,p.2.2.2.1,p.2.2.2.2.1,p.2.2.2.2.2.1,p.2.2.2.2.2.2.1,x))∧w.grownBy (w.setCell ⟨g,i*8+7,none⟩ (.int .i64 x)) (some g):=by
 have:=World.ownsRow.stored h (i*8+7) (.int .i64 x)
 refine⟨?_,this.2⟩
 unfold Own8
 rw[←(flat8_set ps i x).2.2.2.2.2.2.2]
 exact this.1
end
theorem own8_of_row{e:TypeId}{w:World}{base n n':Nat}{v:Value}{vs:List Value}{ps:List T8}(h:w.ownsRow base e 8 v n vs)(hn:n=n')(hv:vs=flat8 ps)(hs:¬v= .slice none 0 0):
  ∃g c,v= .slice (some ⟨g,0,none⟩) n' c∧Own8 e w base g n' c ps:=by
 subst hn hv
 have h':=h
 rcases h.2 with⟨h1,_⟩|⟨g,c,cur,rfl,_⟩
 ·exact absurd h1 hs
 ·exact⟨g,c,rfl,h'⟩
theorem lit80(e:TypeId)(w:World)(base:Nat)(hb:base≤w.heap.size):Own8 e (w.alloc (.cells #[] e)) base w.heap.size 0 0 []:=World.ownsRow_lit w #[] 0 hb (by decide) rfl
theorem At8.cells{w:World}{g:Nat}{ps:List T8}(h:At8 w g ps):∀(j:Nat) (u:Value),(flat8 ps)[j]?=some u→w.cell? ((⟨g,0,none⟩:Addr).add j)=some u:=by
 intro j u hj
 have hl:j<ps.length*8:=by
  have:=(List.getElem?_eq_some_iff.1 hj).1
  rw[flat8_len] at this
  exact this
 rw[Addr.add_lit,Nat.zero_add]
 obtain⟨c0,c1,c2,c3,c4,c5,c6,c7⟩:=h (j/8) (by omega)
 obtain⟨f0,f1,f2,f3,f4,f5,f6,f7⟩:=flat8_get ps (j/8) (by omega)
 rcases(show j%8=0∨j%8=1∨j%8=2∨j%8=3∨j%8=4∨j%8=5∨j%8=6∨j%8=7 by omega) with e|e|e|e|e|e|e|e
 ·rw[show j/8*8=j by omega] at c0 f0
  rw[c0,←hj,f0]
 ·rw[show j/8*8+1=j by omega] at c1 f1
  rw[c1,←hj,f1]
 ·rw[show j/8*8+2=j by omega] at c2 f2
  rw[c2,←hj,f2]
 ·rw[show j/8*8+3=j by omega] at c3 f3
  rw[c3,←hj,f3]
 ·rw[show j/8*8+4=j by omega] at c4 f4
  rw[c4,←hj,f4]
 ·rw[show j/8*8+5=j by omega] at c5 f5
  rw[c5,←hj,f5]
 ·rw[show j/8*8+6=j by omega] at c6 f6
  rw[c6,←hj,f6]
 ·rw[show j/8*8+7=j by omega] at c7 f7
  rw[c7,←hj,f7]
theorem below_drewN{B:Nat}{a w:World}(h:Below B a w)(m:Nat):Below B a (w.drewN m):=⟨h.os,h.tape,h.output,h.size,h.block⟩
theorem getD_mem{ps:List T8}{i:Nat}(h:i<ps.length):el8 ps i∈ps:=by
 unfold el8
 simp only[List.getD,List.getElem?_eq_getElem h,Option.getD_some]
 exact List.getElem_mem h
theorem mem_getD{ps:List T8}{p:T8}(h:p∈ps):∃i,i<ps.length∧el8 ps i=p:=by
 obtain⟨i,hi,e⟩:=List.getElem_of_mem h
 refine⟨i,hi,?_⟩
 unfold el8
 simp[List.getD,hi,e]
end Tup8
namespace Lots
open Tup5
def Amt(x:Int):Prop:= -1000000000000000≤x∧x≤1000000000000000
def NoOk(x:Int):Prop:=1≤x∧x≤1000
theorem bool_of(p:Prop):∃b:Bool,b=true↔p:=by
 by_cases h:p
 ·exact⟨true,⟨fun _=>h,fun _=>rfl⟩⟩
 ·exact⟨false,⟨fun e=>Bool.noConfusion e,fun e=>absurd e h⟩⟩
def Says(b:Bool)(p:Prop):Prop:=b=true↔p
theorem says_of(p:Prop):∃b,Says b p:=bool_of _
theorem Says.yes{p:Prop}(h:Says true p):p:=h.1 rfl
theorem Says.no{p:Prop}(h:Says false p):¬p:=fun r=>Bool.noConfusion (h.2 r)
theorem Says.of{b:Bool}{p:Prop}(h:Says b p)(r:p):b=true:=h.2 r
theorem Says.not{b:Bool}{p:Prop}(h:Says b p)(r:¬p):b=false:=by
 cases b
 ·rfl
 ·exact absurd h.yes r
def Bef(p q:T5):Prop:=p.1<q.1∨(p.1=q.1∧(p.2.1<q.2.1∨(p.2.1=q.2.1∧p.2.2.1<q.2.2.1)))
theorem bef_trans{p q r:T5}(h:Bef p q)(k:Bef q r):Bef p r:=by unfold Bef at *;omega
def One(p:T5):Prop:=NoOk p.1∧NoOk p.2.1∧(1≤p.2.2.1∧p.2.2.1≤1000000000)∧(1≤p.2.2.2.1∧p.2.2.2.1≤1000000000000000)∧(0≤p.2.2.2.2∧p.2.2.2.2≤1000000000000000)
def qtyOf:List T5→Int→Int→Int
 |[],_,_=>0
 |p::r,a,i=>(if p.1=a∧p.2.1=i then p.2.2.2.1 else 0)+qtyOf r a i
def costOf:List T5→Int→Int→Int
 |[],_,_=>0
 |p::r,a,i=>(if p.1=a∧p.2.1=i then p.2.2.2.2 else 0)+costOf r a i
theorem qtyOf_append(a i:Int):∀(ps qs:List T5),qtyOf (ps++qs) a i=qtyOf ps a i+qtyOf qs a i
 |[],qs=>by simp[qtyOf]
 |p::r,qs=>by
  have:=qtyOf_append a i r qs
  simp only[List.cons_append,qtyOf,this]
  omega
theorem costOf_append(a i:Int):∀(ps qs:List T5),costOf (ps++qs) a i=costOf ps a i+costOf qs a i
 |[],qs=>by simp[costOf]
 |p::r,qs=>by
  have:=costOf_append a i r qs
  simp only[List.cons_append,costOf,this]
  omega
theorem qtyOf_next{ps:List T5}{k:Nat}(h:k<ps.length)(a i:Int):qtyOf (ps.take (k+1)) a i=qtyOf (ps.take k) a i+(if(el5 ps k).1=a∧(el5 ps k).2.1=i then(el5 ps k).2.2.2.1 else 0):=by
 rw[take_next h,qtyOf_append]
 simp[qtyOf]
theorem costOf_next{ps:List T5}{k:Nat}(h:k<ps.length)(a i:Int):costOf (ps.take (k+1)) a i=costOf (ps.take k) a i+(if(el5 ps k).1=a∧(el5 ps k).2.1=i then(el5 ps k).2.2.2.2 else 0):=by
 rw[take_next h,costOf_append]
 simp[costOf]
def RowOk(ps:List T5)(i:Nat):Prop:=One (el5 ps i)∧(0<i→Bef (el5 ps (i-1)) (el5 ps i))
def Right(ps:List T5):Prop:=
 ps.length≤120∧(∀i,i<ps.length→RowOk ps i)∧∀a i,qtyOf ps a i≤1000000000000000∧costOf ps a i≤1000000000000000
theorem qty_pos{a i:Int}:∀(ps:List T5),(∀p∈ps,One p)→0≤qtyOf ps a i∧0≤costOf ps a i
 |[],_=>by simp[qtyOf,costOf]
 |p::r,h=>by
  obtain⟨i1,i2⟩:=qty_pos (a:=a) (i:=i) r (fun q hq=>h q (List.mem_cons_of_mem _ hq))
  obtain⟨_,_,_,h4,h5⟩:=h p List.mem_cons_self
  unfold qtyOf costOf
  constructor
  ·split<;>omega
  ·split<;>omega
theorem take_le{ps:List T5}(h:∀p∈ps,One p)(k:Nat)(a i:Int):qtyOf (ps.take k) a i≤qtyOf ps a i∧costOf (ps.take k) a i≤costOf ps a i:=by
 have e:ps=ps.take k++ps.drop k:=(List.take_append_drop k ps).symm
 have q:=qty_pos (a:=a) (i:=i) (ps.drop k) (fun p hp=>h p (List.mem_of_mem_drop hp))
 have e1:=qtyOf_append a i (ps.take k) (ps.drop k)
 have e2:=costOf_append a i (ps.take k) (ps.drop k)
 rw[←e] at e1 e2
 omega
def run(ps:List T5)(k:Nat):Int×Int:=(qtyOf (ps.take (k+1)) (el5 ps k).1 (el5 ps k).2.1,costOf (ps.take (k+1)) (el5 ps k).1 (el5 ps k).2.1)
theorem asc_of{ps:List T5}{m:Nat}(hm:m≤ps.length)(h:∀i,i<m→RowOk ps i):∀j i,i<j→j<m→Bef (el5 ps i) (el5 ps j):=by
 intro j
 induction j with
 |zero=>intro i h1;omega
 |succ j ih=>
  intro i h1 h2
  have r:=(h (j+1) h2).2 (by omega)
  rw[show j+1-1=j by omega] at r
  by_cases e:i=j
  ·subst e;exact r
  ·exact bef_trans (ih i (by omega) (by omega)) r
theorem qty_none(a i:Int):∀(ps:List T5),(∀p∈ps,¬(p.1=a∧p.2.1=i))→qtyOf ps a i=0∧costOf ps a i=0
 |[],_=>⟨rfl,rfl⟩
 |p::r,h=>by
  obtain⟨h1,h2⟩:=qty_none a i r (fun q hq=>h q (List.mem_cons_of_mem _ hq))
  unfold qtyOf costOf
  rw[if_neg (h p List.mem_cons_self),if_neg (h p List.mem_cons_self),h1,h2]
  exact⟨rfl,rfl⟩
theorem mem_take{ps:List T5}{k:Nat}{p:T5}(h:p∈ps.take k):∃i,i<k∧i<ps.length∧el5 ps i=p:=by
 obtain⟨i,hi,e⟩:=mem_getD h
 have h1:i<k∧i<ps.length:=by simp at hi;omega
 refine⟨i,h1.1,h1.2,?_⟩
 rw[←e]
 simp[el5,List.getD,h1.1,h1.2]
theorem run_next{ps:List T5}{k:Nat}(hk:k<ps.length)(h:∀i,i<k+1→RowOk ps i):
  run ps k=(if k=0∨(el5 ps k).1≠(el5 ps (k-1)).1∨(el5 ps k).2.1≠(el5 ps (k-1)).2.1 then((el5 ps k).2.2.2.1,(el5 ps k).2.2.2.2)
   else((run ps (k-1)).1+(el5 ps k).2.2.2.1,(run ps (k-1)).2+(el5 ps k).2.2.2.2)):=by
 unfold run
 rw[qtyOf_next hk,costOf_next hk,if_pos ⟨rfl,rfl⟩,if_pos ⟨rfl,rfl⟩]
 by_cases c:k=0∨(el5 ps k).1≠(el5 ps (k-1)).1∨(el5 ps k).2.1≠(el5 ps (k-1)).2.1
 ·rw[if_pos c]
  obtain⟨z1,z2⟩:=qty_none (el5 ps k).1 (el5 ps k).2.1 (ps.take k) (fun p hp e=>by
   obtain⟨i,hi,hl,rfl⟩:=mem_take hp
   have b:=asc_of (m:=k+1) (by omega) h k i hi (by omega)
   by_cases k0:k=0
   ·omega
   ·have b1:=(h k (by omega)).2 (by omega)
    by_cases e1:i=k-1
    ·subst e1
     rcases c with c|c|c
     ·omega
     ·exact c e.1.symm
     ·exact c e.2.symm
    ·have b2:=asc_of (m:=k+1) (by omega) h (k-1) i (by omega) (by omega)
     unfold Bef at b b1 b2
     omega)
  rw[z1,z2]
  simp
 ·rw[if_neg c]
  have k0:k≠0:=fun e=>c (.inl e)
  have e1:(el5 ps k).1=(el5 ps (k-1)).1:=Classical.byContradiction fun e=>c (.inr (.inl e))
  have e2:(el5 ps k).2.1=(el5 ps (k-1)).2.1:=Classical.byContradiction fun e=>c (.inr (.inr e))
  rw[show k-1+1=k by omega,e1,e2]
theorem right_iff(ps:List T5)(hl:ps.length≤120):Right ps↔∀i,i<ps.length→RowOk ps i∧(run ps i).1≤1000000000000000∧(run ps i).2≤1000000000000000:=by
 constructor
 ·rintro⟨_,h2,h3⟩ i hi
  have one:∀p∈ps,One p:=fun p hp=>by
   obtain⟨j,hj,rfl⟩:=mem_getD hp
   exact(h2 j hj).1
  have t:=take_le one (i+1) (el5 ps i).1 (el5 ps i).2.1
  have s:=h3 (el5 ps i).1 (el5 ps i).2.1
  refine⟨h2 i hi,?_,?_⟩
  ·show qtyOf _ _ _≤_
   omega
  ·show costOf _ _ _≤_
   omega
 ·intro h
  refine⟨hl,fun i hi=>(h i hi).1,fun a i=>?_⟩
  have key:∀m,m≤ps.length→qtyOf (ps.take m) a i≤1000000000000000∧costOf (ps.take m) a i≤1000000000000000:=by
   intro m
   induction m with
   |zero=>intro _;simp[qtyOf,costOf]
   |succ m ih=>
    intro hm
    by_cases e:(el5 ps m).1=a∧(el5 ps m).2.1=i
    ·obtain⟨rfl,rfl⟩:=e
     exact(h m (by omega)).2
    ·have i0:=ih (by omega)
     rw[qtyOf_next (by omega),costOf_next (by omega),if_neg e,if_neg e]
     omega
  have:=key ps.length (Nat.le_refl _)
  rw[List.take_length] at this
  exact this
theorem Right.asc{ps:List T5}(h:Right ps):ps.Pairwise Bef:=by
 rw[List.pairwise_iff_getElem]
 intro i j hi hj hij
 have:=asc_of (m:=ps.length) (Nat.le_refl _) h.2.1 j i hij hj
 simpa[el5,List.getD,hi,hj] using this
def ownL(ps:List T5)(a i:Int):List T5:=ps.filter fun p=>decide (p.1=a∧p.2.1=i)
def restL(ps:List T5)(a i:Int):List T5:=ps.filter fun p=> !decide (p.1=a∧p.2.1=i)
theorem own_next{ps:List T5}{k:Nat}(h:k<ps.length)(a i:Int):ownL (ps.take (k+1)) a i=ownL (ps.take k) a i++(if(el5 ps k).1=a∧(el5 ps k).2.1=i then[el5 ps k] else[]):=by
 unfold ownL
 rw[take_next h,List.filter_append]
 congr 1
 generalize el5 ps k=p
 by_cases e:p.1=a∧p.2.1=i
 ·rw[if_pos e];simp[e]
 ·rw[if_neg e,List.filter_cons];simp[e]
theorem rest_next{ps:List T5}{k:Nat}(h:k<ps.length)(a i:Int):restL (ps.take (k+1)) a i=restL (ps.take k) a i++(if(el5 ps k).1=a∧(el5 ps k).2.1=i then[] else[el5 ps k]):=by
 unfold restL
 rw[take_next h,List.filter_append]
 congr 1
 generalize el5 ps k=p
 by_cases e:p.1=a∧p.2.1=i
 ·rw[if_pos e];simp[e]
 ·rw[if_neg e,List.filter_cons];simp[e]
theorem own_asc{ps:List T5}(h:ps.Pairwise Bef)(a i:Int):(ownL ps a i).Pairwise Bef∧(restL ps a i).Pairwise Bef:=⟨h.filter _,h.filter _⟩
def mergeL:Nat→List T5→List T5→List T5
 |0,_,_=>[]
 |_+1,[],b=>b
 |_+1,a,[]=>a
 |f+1,x::a,y::b=>
  if x.1<y.1∨(x.1=y.1∧(x.2.1<y.2.1∨(x.2.1=y.2.1∧x.2.2.1<y.2.2.1))) then x::mergeL f a (y::b) else y::mergeL f (x::a) b
end Lots
namespace Takes
open Tup5 Lots
theorem merge_left:∀(n:Nat) (a:List T5),a.length≤n→mergeL n a []=a
 |0,[],_=>rfl
 |0,x::a,h=>by simp at h
 |n+1,[],_=>rfl
 |n+1,x::a,_=>rfl
theorem merge_right:∀(n:Nat) (b:List T5),b.length≤n→mergeL n [] b=b
 |0,[],_=>rfl
 |0,x::a,h=>by simp at h
 |n+1,[],_=>rfl
 |n+1,x::a,_=>rfl
theorem merge_yes{n:Nat}{x y:T5}{a b:List T5}(h:Bef x y):mergeL (n+1) (x::a) (y::b)=x::mergeL n a (y::b):=by
 unfold Bef at h
 simp[mergeL,h]
theorem merge_no{n:Nat}{x y:T5}{a b:List T5}(h:¬Bef x y):mergeL (n+1) (x::a) (y::b)=y::mergeL n (x::a) b:=by
 unfold Bef at h
 simp[mergeL,h]
theorem merge_len:∀(n:Nat) (a b:List T5),a.length+b.length≤n→(mergeL n a b).length=a.length+b.length
 |0,[],[],_=>rfl
 |0,x::a,_,h=>by simp at h
 |0,[],y::b,h=>by simp at h
 |n+1,[],b,h=>by rw[merge_right _ _ (by simpa using h)];simp
 |n+1,x::a,[],h=>by rw[merge_left _ _ (by simpa using h)];simp
 |n+1,x::a,y::b,h=>by
  by_cases e:Bef x y
  ·rw[merge_yes e]
   have:=merge_len n a (y::b) (by simp at h⊢;omega)
   simp[this];omega
  ·rw[merge_no e]
   have:=merge_len n (x::a) b (by simp at h⊢;omega)
   simp[this];omega
theorem filter_all{l:List T5}{f:T5→Bool}(h:∀p∈l,f p=true):l.filter f=l:=List.filter_eq_self.2 h
theorem filter_none{l:List T5}{f:T5→Bool}(h:∀p∈l,f p=false):l.filter f=[]:=by
 rw[List.filter_eq_nil_iff]
 intro p hp
 rw[h p hp]
 simp
def sumQ:List T5→Int
 |[]=>0
 |p::r=>p.2.2.2.1+sumQ r
def sumC:List T5→Int
 |[]=>0
 |p::r=>p.2.2.2.2+sumC r
theorem sumQ_append:∀(a b:List T5),sumQ (a++b)=sumQ a+sumQ b
 |[],b=>by simp[sumQ]
 |p::r,b=>by simp only[List.cons_append,sumQ,sumQ_append r b];omega
theorem sumC_append:∀(a b:List T5),sumC (a++b)=sumC a+sumC b
 |[],b=>by simp[sumC]
 |p::r,b=>by simp only[List.cons_append,sumC,sumC_append r b];omega
theorem sumQ_next{ps:List T5}{k:Nat}(h:k<ps.length):sumQ (ps.take (k+1))=sumQ (ps.take k)+(el5 ps k).2.2.2.1:=by
 rw[take_next h,sumQ_append]
 simp[sumQ]
theorem sumC_next{ps:List T5}{k:Nat}(h:k<ps.length):sumC (ps.take (k+1))=sumC (ps.take k)+(el5 ps k).2.2.2.2:=by
 rw[take_next h,sumC_append]
 simp[sumC]
theorem sumQ_rev:∀(a:List T5),sumQ a.reverse=sumQ a
 |[]=>rfl
 |p::r=>by rw[List.reverse_cons,sumQ_append,sumQ_rev r];simp[sumQ];omega
theorem sumC_rev:∀(a:List T5),sumC a.reverse=sumC a
 |[]=>rfl
 |p::r=>by rw[List.reverse_cons,sumC_append,sumC_rev r];simp[sumC];omega
theorem own_sums(a i:Int):∀(ps:List T5),sumQ (ownL ps a i)=qtyOf ps a i∧sumC (ownL ps a i)=costOf ps a i
 |[]=>⟨rfl,rfl⟩
 |p::r=>by
  obtain⟨h1,h2⟩:=own_sums a i r
  unfold ownL at h1 h2⊢
  by_cases e:p.1=a∧p.2.1=i
  ·rw[List.filter_cons_of_pos (by simpa using e)]
   simp only[sumQ,sumC,qtyOf,costOf,if_pos e,h1,h2]
   exact⟨trivial,trivial⟩
  ·rw[List.filter_cons_of_neg (by simpa using e)]
   simp only[qtyOf,costOf,if_neg e,h1,h2]
   omega
def Pos(p:T5):Prop:=(1≤p.2.2.2.1∧p.2.2.2.1≤1000000000000000)∧0≤p.2.2.2.2∧p.2.2.2.2≤1000000000000000
theorem sum_pos:∀(l:List T5),(∀p∈l,Pos p)→0≤sumQ l∧0≤sumC l
 |[],_=>by simp[sumQ,sumC]
 |p::r,h=>by
  obtain⟨i1,i2⟩:=sum_pos r (fun q hq=>h q (List.mem_cons_of_mem _ hq))
  have hp:=h p List.mem_cons_self
  unfold Pos at hp
  unfold sumQ sumC
  omega
def leftF:List T5→Int→List T5
 |[],_=>[]
 |p::r,q=>if q≤0 then p::r else if p.2.2.2.1≤q then leftF r (q-p.2.2.2.1) else(p.1,p.2.1,p.2.2.1,p.2.2.2.1-q,p.2.2.2.2-p.2.2.2.2*q/p.2.2.2.1)::r
def costF:List T5→Int→Int
 |[],_=>0
 |p::r,q=>if q≤0 then 0 else if p.2.2.2.1≤q then p.2.2.2.2+costF r (q-p.2.2.2.1) else p.2.2.2.2*q/p.2.2.2.1
theorem leftF_cons(p:T5)(r:List T5)(q:Int):leftF (p::r) q=if q≤0 then p::r else if p.2.2.2.1≤q then leftF r (q-p.2.2.2.1) else(p.1,p.2.1,p.2.2.1,p.2.2.2.1-q,p.2.2.2.2-p.2.2.2.2*q/p.2.2.2.1)::r:=rfl
theorem costF_cons(p:T5)(r:List T5)(q:Int):costF (p::r) q=if q≤0 then 0 else if p.2.2.2.1≤q then p.2.2.2.2+costF r (q-p.2.2.2.1) else p.2.2.2.2*q/p.2.2.2.1:=rfl
theorem leftF_zero:∀(l:List T5),leftF l 0=l
 |[]=>rfl
 |p::r=>by simp[leftF]
theorem costF_zero:∀(l:List T5),costF l 0=0
 |[]=>rfl
 |p::r=>by simp[costF]
def prt(q x:Int):Int:=if q≤x then q else x
def pcost(c x q:Int):Int:=c*prt q x/x
def after(p:T5)(q:Int):T5:=(p.1,p.2.1,p.2.2.1,p.2.2.2.1-prt q p.2.2.2.1,p.2.2.2.2-pcost p.2.2.2.2 p.2.2.2.1 q)
theorem div_le{c t x:Int}(c0:0≤c)(t0:0≤t)(tx:t≤x)(x1:1≤x):0≤c*t/x∧c*t/x≤c:=by
 constructor
 ·exact Int.ediv_nonneg (Int.mul_nonneg c0 t0) (by omega)
 ·have h:c*t≤c*x:=Int.mul_le_mul_of_nonneg_left tx c0
  have h2:c*t/x≤c*x/x:=Int.ediv_le_ediv (by omega) h
  rwa [Int.mul_ediv_cancel _ (by omega)] at h2
theorem part_bd{q x:Int}(q0:0≤q)(x1:1≤x):0≤prt q x∧prt q x≤x∧prt q x≤q:=by unfold prt;split<;>omega
def fz(l:List T5):List T5:=l.filter fun p=> !decide (p.2.2.2.1=0)
theorem take_step{p:T5}{r:List T5}{q:Int}(hp:Pos p)(q0:0<q):fz [after p q]++leftF r (q-prt q p.2.2.2.1)=leftF (p::r) q∧pcost p.2.2.2.2 p.2.2.2.1 q+costF r (q-prt q p.2.2.2.1)=costF (p::r) q:=by
 obtain⟨⟨x1,x2⟩,c0,c1⟩:=hp
 have q1:¬q≤0:=by omega
 rw[leftF_cons,costF_cons,if_neg q1,if_neg q1]
 by_cases f:p.2.2.2.1≤q
 ·have e:prt q p.2.2.2.1=p.2.2.2.1:=by unfold prt;split<;>omega
  rw[if_pos f,if_pos f,e]
  constructor
  ·have:fz [after p q]=[]:=filter_none (fun z hz=>by
    rw[List.mem_singleton] at hz
    subst hz
    unfold after
    simp[e])
   rw[this,List.nil_append]
  ·unfold pcost
   rw[e,Int.mul_ediv_cancel _ (by omega)]
 ·have e:prt q p.2.2.2.1=q:=by unfold prt;split<;>omega
  rw[if_neg f,if_neg f,e,Int.sub_self,leftF_zero,costF_zero,Int.add_zero]
  constructor
  ·have:fz [after p q]=[after p q]:=filter_all (fun z hz=>by
    rw[List.mem_singleton] at hz
    subst hz
    unfold after
    simp[e]
    omega)
   rw[this]
   unfold after pcost
   rw[e]
   rfl
  ·unfold pcost
   rw[e]
theorem costF_bd:∀(l:List T5) (q:Int),0≤q→(∀p∈l,Pos p)→0≤costF l q∧costF l q≤sumC l
 |[],q,_,_=>by simp[costF,sumC]
 |p::r,q,q0,h=>by
  have hp:=h p List.mem_cons_self
  have hr:=sum_pos r (fun z hz=>h z (List.mem_cons_of_mem _ hz))
  unfold Pos at hp
  unfold costF sumC
  split
  ·omega
  ·split
   ·have:=costF_bd r (q-p.2.2.2.1) (by omega) (fun z hz=>h z (List.mem_cons_of_mem _ hz))
    omega
   ·have:=div_le (c:=p.2.2.2.2) (t:=q) (x:=p.2.2.2.1) hp.2.1 (by omega) (by omega) hp.1.1
    omega
def dirL(way:Int)(l:List T5):List T5:=if way=2 then l.reverse else l
theorem dir_len(way:Int)(l:List T5):(dirL way l).length=l.length:=by unfold dirL;split<;>simp
theorem dir_dir(way:Int)(l:List T5):dirL way (dirL way l)=l:=by
 unfold dirL
 by_cases h:way=2
 ·rw[if_pos h,if_pos h,List.reverse_reverse]
 ·rw[if_neg h,if_neg h]
theorem dir_mem{way:Int}{l:List T5}{p:T5}:p∈dirL way l↔p∈l:=by unfold dirL;split<;>simp
theorem dir_sum(way:Int)(l:List T5):sumQ (dirL way l)=sumQ l∧sumC (dirL way l)=sumC l:=by
 unfold dirL
 split
 ·exact⟨sumQ_rev l,sumC_rev l⟩
 ·exact⟨rfl,rfl⟩
def leftW(way:Int)(own:List T5)(q:Int):List T5:=dirL way (leftF (dirL way own) q)
def costW(way:Int)(own:List T5)(q:Int):Int:=costF (dirL way own) q
def atI(way:Int)(n:Nat):Nat:=if way=2 then n-1 else 0
theorem mod_last(f:T5→T5)(x:T5):∀r:List T5,(r++[x]).modify r.length f=r++[f x]
 |[]=>rfl
 |y::r=>by
  have:=mod_last f x r
  simp[this]
theorem dir_at(way:Int)(cur:List T5)(h:0<cur.length):∃r,dirL way cur=el5 cur (atI way cur.length)::r∧dirL way (cur.take (atI way cur.length)++cur.drop (atI way cur.length+1))=r∧∀f:T5→T5,dirL way (cur.modify (atI way cur.length) f)=f (el5 cur (atI way cur.length))::r:=by
 unfold dirL atI
 by_cases w:way=2
 ·simp only[if_pos w]
  rcases List.eq_nil_or_concat cur with e|⟨r,x,e⟩
  ·rw[e] at h;simp at h
  ·rw[List.concat_eq_append] at e
   subst e
   refine⟨r.reverse,?_,?_,fun f=>?_⟩
   ·simp[el5,List.getD]
   ·simp
   ·have:(r++[x]).modify ((r++[x]).length-1) f=r++[f x]:=by
     rw[show(r++[x]).length-1=r.length by simp]
     exact mod_last f x r
    rw[this]
    simp[el5,List.getD]
 ·simp only[if_neg w]
  cases cur with
  |nil=>simp at h
  |cons x r=>exact⟨r,rfl,by simp,fun f=>rfl⟩
theorem el_ext{ps qs:List T5}(hl:ps.length=qs.length)(h:∀i,i<ps.length→el5 ps i=el5 qs i):ps=qs:=by
 apply List.ext_getElem hl
 intro i h1 h2
 have:=h i h1
 simpa[el5,List.getD,h1,h2] using this
theorem el_modify(l:List T5)(k i:Nat)(f:T5→T5)(h:i<l.length):el5 (l.modify k f) i=if k=i then f (el5 l i) else el5 l i:=by
 unfold el5
 rw[List.getD_eq_getElem?_getD,List.getD_eq_getElem?_getD,List.getElem?_modify,List.getElem?_eq_getElem h]
 by_cases e:k=i
 ·simp[e]
 ·simp[e]
theorem take_modify(l:List T5)(j:Nat)(f:T5→T5)(h:j<l.length):(l.modify j f).take (j+1)=l.take j++[f (el5 l j)]∧(l.modify j f).drop (j+1)=l.drop (j+1):=by
 constructor
 ·rw[take_next (by simpa using h),el_modify _ _ _ _ h,if_pos rfl,List.take_modify]
  congr 1
  apply el_ext
  ·simp
  ·intro i hi
   have hi:i<j:=by simp at hi;omega
   rw[el_modify _ _ _ _ (by simp;omega),if_neg (by omega)]
 ·apply el_ext
  ·simp
  ·intro i hi
   simp at hi
   simp only[el5,List.getD,List.getElem?_drop,List.getElem?_modify]
   have ne:¬j=j+1+i:=by omega
   simp[ne]
def meanL(own:List T5)(q:Int):List T5:=if q=sumQ own then[] else[((el5 own 0).1,(el5 own 0).2.1,(el5 own 0).2.2.1,sumQ own-q,sumC own-sumC own*q/sumQ own)]
def meanC(own:List T5)(q:Int):Int:=sumC own*q/sumQ own
def takeL(way:Int)(own:List T5)(q:Int):List T5:=if way=3 then meanL own q else leftW way own q
def takeC(way:Int)(own:List T5)(q:Int):Int:=if way=3 then meanC own q else costW way own q
theorem leftF_key{a i:Int}:∀(l:List T5) (q:Int),(∀p∈l,p.1=a∧p.2.1=i)→(∀p∈leftF l q,p.1=a∧p.2.1=i)∧(leftF l q).length≤l.length
 |[],q,h=>⟨by simp[leftF],by simp[leftF]⟩
 |p::r,q,h=>by
  have hp:=h p List.mem_cons_self
  have hr:∀z∈r,z.1=a∧z.2.1=i:=fun z hz=>h z (List.mem_cons_of_mem _ hz)
  unfold leftF
  split
  ·exact⟨h,Nat.le_refl _⟩
  ·split
   ·obtain⟨h1,h2⟩:=leftF_key r (q-p.2.2.2.1) hr
    exact⟨h1,by simp;omega⟩
   ·refine⟨fun z hz=>?_,by simp⟩
    rcases List.mem_cons.1 hz with rfl|hz
    ·exact hp
    ·exact hr z hz
theorem takeL_key{a i:Int}{way:Int}{own:List T5}{q:Int}(h:∀p∈own,p.1=a∧p.2.1=i)(ne:0<own.length):(∀p∈takeL way own q,p.1=a∧p.2.1=i)∧(takeL way own q).length≤own.length:=by
 unfold takeL
 split
 ·unfold meanL
  split
  ·exact⟨by simp,by simp⟩
  ·refine⟨fun p hp=>?_,by simp;omega⟩
   rw[List.mem_singleton] at hp
   subst hp
   exact h (el5 own 0) (getD_mem ne)
 ·unfold leftW
  have:=leftF_key (dirL way own) q (fun p hp=>h p (dir_mem.1 hp))
  refine⟨fun p hp=>this.1 p (dir_mem.1 hp),?_⟩
  rw[dir_len]
  have:=this.2
  rw[dir_len] at this
  exact this
theorem right_pos{ps:List T5}(h:Right ps):∀p∈ps,Pos p:=by
 intro p hp
 obtain⟨i,hi,rfl⟩:=mem_getD hp
 have:=(h.2.1 i hi).1
 exact this.2.2.2
theorem own_pos{ps:List T5}(h:Right ps)(a i:Int):(∀p∈ownL ps a i,Pos p)∧sumQ (ownL ps a i)≤1000000000000000∧sumC (ownL ps a i)≤1000000000000000:=by
 refine⟨fun p hp=>right_pos h p (List.mem_filter.1 hp).1,?_⟩
 obtain⟨e1,e2⟩:=own_sums a i ps
 rw[e1,e2]
 exact h.2.2 a i
theorem left_part{p:T5}{r:List T5}{q:Int}(q0:0<q)(lt:q<p.2.2.2.1):leftF (p::r) q=after p q::r∧costF (p::r) q=pcost p.2.2.2.2 p.2.2.2.1 q:=by
 have e:prt q p.2.2.2.1=q:=by unfold prt;split<;>omega
 have q1:¬q≤0:=by omega
 have q2:¬p.2.2.2.1≤q:=by omega
 rw[leftF_cons,costF_cons,if_neg q1,if_neg q1,if_neg q2,if_neg q2]
 unfold after pcost
 rw[e]
 exact⟨rfl,rfl⟩
theorem left_full{p:T5}{r:List T5}{q:Int}(q0:0<q)(le:p.2.2.2.1≤q):leftF (p::r) q=leftF r (q-p.2.2.2.1)∧costF (p::r) q=p.2.2.2.2+costF r (q-p.2.2.2.1):=by
 have q1:¬q≤0:=by omega
 rw[leftF_cons,costF_cons,if_neg q1,if_neg q1,if_pos le,if_pos le]
 exact⟨rfl,rfl⟩
theorem mod_mod(l:List T5)(m:Nat)(x y:Int):(l.modify m (fun p=>(p.1,p.2.1,p.2.2.1,x,p.2.2.2.2))).modify m (fun p=>(p.1,p.2.1,p.2.2.1,p.2.2.2.1,y))=l.modify m (fun p=>(p.1,p.2.1,p.2.2.1,x,y)):=by
 apply el_ext
 ·simp
 ·intro i hi
  have hi:i<l.length:=by simpa using hi
  rw[el_modify _ _ _ _ (by simpa using hi),el_modify _ _ _ _ hi,el_modify _ _ _ _ hi]
  by_cases e:m=i
  ·simp[e]
  ·simp[e]
theorem mod_take(l:List T5)(m:Nat)(f:T5→T5)(h:m<l.length):(l.modify m f).take m=l.take m∧(l.modify m f).drop (m+1)=l.drop (m+1):=by
 refine⟨?_,(take_modify l m f h).2⟩
 apply el_ext
 ·simp
 ·intro i hi
  have hi:i<m:=by simp at hi;omega
  have a:el5 ((l.modify m f).take m) i=el5 (l.modify m f) i:=by simp[el5,List.getD,hi]
  have b:el5 (l.take m) i=el5 l i:=by simp[el5,List.getD,hi]
  rw[a,b,el_modify _ _ _ _ (by omega),if_neg (by omega)]
theorem mod_mem{l:List T5}{m:Nat}{f:T5→T5}{p:T5}(h:m<l.length)(hp:p∈l.modify m f):p∈l∨p=f (el5 l m):=by
 obtain⟨i,hi,rfl⟩:=mem_getD hp
 have hi:i<l.length:=by simpa using hi
 rw[el_modify _ _ _ _ hi]
 by_cases e:m=i
 ·subst e;rw[if_pos rfl];exact .inr rfl
 ·rw[if_neg e];exact .inl (getD_mem hi)
theorem cutout_mem{l:List T5}{m:Nat}{p:T5}(hp:p∈l.take m++l.drop (m+1)):p∈l:=by
 rcases List.mem_append.1 hp with h|h
 ·exact List.mem_of_mem_take h
 ·exact List.mem_of_mem_drop h
end Takes
namespace Quieter
open Tup5
structure Near(w:World) where
 u:World
 b:Below w.heap.size w u
theorem near_is(w:World):Nonempty (Near w):=⟨⟨w,Below.refl _ _⟩⟩
theorem quiet_near{P:Program}{id:Nat}{Q:Exit→Act→World→Prop}{a:Act}{w:World}{l:List Oper}(hm:P.follows .mixedOrders=true)(hB:Region.lexB .any l.toArray=true)
  (h:wpQuiet P l.toArray (fun w'=>∃n:Near w,w'=n.u) (fun a'=>∀w',(∃n:Near w,w'=n.u)→Q .normal a' w') l a):(Code.region id l.toArray true).wp P Q a w:=
 wp_region_quiet (C:=fun w'=>∃n:Near w,w'=n.u) hm hB ⟨⟨w.drew,Below.drew (Below.refl _ _)⟩,rfl⟩ h
end Quieter
namespace AccountHelp
open Pairs
theorem info2:(Tryz.prog.info? 112).map (fun i=>(i.zero,i.size,i.bytes))=some (some (.agg #[.int .i64 0,.int .i64 0]),2,16):=by kernel_rfl
end AccountHelp
namespace InstrHelp
open Pairs
theorem info2:(Tryz.prog.info? 113).map (fun i=>(i.zero,i.size,i.bytes))=some (some (.agg #[.int .i64 0,.int .i64 0]),2,16):=by kernel_rfl
end InstrHelp
namespace MulC
open Wide Plain
def Tells(a b c q r:Int)(ok:Bool):Prop:=
 (a*b/c≤1000000000000000∧q=a*b/c∧r=a*b%c∧ok=true)∨(1000000000000000<a*b/c∧q=0∧r=0∧ok=false)
theorem out(a b c q r x:Int)(ok:Bool)(k:Nat)(h:Tells a b c q r ok)(hx:x=Pn a b k/c)(a0:0≤a)(b0:0≤b)(hc:0<c)(hb:1000000000000000<x):q=0∧r=0∧ok=false:=by
 have:=Pn_le a b c k a0 b0 hc
 rcases h with h|h
 ·omega
 ·exact h.2
theorem fin(a b c q r x y:Int)(ok:Bool)(h:Tells a b c q r ok)(hx:x=Pn a b 0/c)(hy:y=Pn a b 0%c)(hb:x≤1000000000000000):q=x∧r=y∧ok=true:=by
 rw[Pn_zero] at hx hy
 rcases h with h|h
 ·exact⟨h.2.1.trans hx.symm,h.2.2.1.trans hy.symm,h.2.2.2⟩
 ·omega
theorem sMD(a b c q r:Int)(ok:Bool)(w:World)(a0:0≤a)(a1:a≤1000000000000000)(b0:0≤b)(b1:b≤1000000000000000)(c0:1≤c)(c1:c≤1000000000000000)(ht:Hid (Tells a b c q r ok)):
  Calls Tryz.prog 87 #[.int .i64 a,.int .i64 b,.int .i64 c] w fun e w'=>e= .returned (.tuple #[.int .i64 q,.int .i64 r,.bool ok])∧w'=w:=by
 have u0:0≤b/c:=Int.ediv_nonneg b0 (by omega)
 have u1:b/c≤1000000000000000:=Int.le_trans (Int.ediv_le_self _ b0) b1
 have v0:0≤b%c:=Int.emod_nonneg _ (by omega)
 have v1:b%c<c:=Int.emod_lt_of_pos _ (by omega)
 have S:=zh (show(0:Int)=Pn a b 51/c∧(0:Int)=Pn a b 51%c by rw[Pn_start a b a0 a1,Int.zero_ediv,Int.zero_emod];exact⟨rfl,rfl⟩)
 go_enter Tryz.func87,Tryz.ntmps87
 go_wp2
 go_loop [9,10,11] (fun q r i=>∃(n:Nat) (x y:Int),n≤51∧i= .int .i64 ((n:Int) -1)∧q= .int .i64 x∧r= .int .i64 y∧0≤x∧x≤1000000000000000∧0≤y∧y<c∧Hid (x=Pn a b n/c∧y=Pn a b n%c))
  (fun _ _ i=>(intOf i+1).toNat)
 case atStart=>exact⟨51,0,0,by omega,by go_num,rfl,rfl,by omega,by omega,by omega,by omega,S⟩
 case round=>
  obtain⟨n,x,y,hn,rfl,rfl,rfl,x0,x1,y0,y1,HD⟩:=hrel
  clear S
  by_cases hlt:1≤n
  ·obtain⟨k,rfl⟩:∃k,n=k+1:=⟨n-1,by omega⟩
   have D:=zh (double a b c x y k (by omega) (zu HD).1 (zu HD).2)
   have ps:=zh (Pn_step a b k)
   rcases bit a k with⟨m0,mb⟩|⟨m0,mb⟩
   ·have ps':=zu ps
    rw[m0,Int.zero_mul,Int.add_zero] at ps'
    have PS:=zh ps'
    clear ps ps' m0
    by_cases t:c≤2*y
    ·have f:=(zu D).2 t
     rw[←zu PS] at f
     have F:=zh f
     have O:=zh (out a b c q r (2*x+1) ok k (zu ht) f.1 a0 b0 (by omega))
     clear f D PS HD ht
     go_wp2
     ·have hb:1000000000000000<2*x+1:=by assumption
      obtain⟨e1,e2,e3⟩:=(zu O) hb
      go_ret3
      exact⟨by rw[e1,e2,e3];rfl,rfl⟩
     ·go_round
      case rel=>exact⟨k,2*x+1,2*y-c,by omega,by go_num,rfl,rfl,by omega,by assumption,by omega,by omega,F⟩
      case measure=>simp[intOf]
    ·have f:=(zu D).1 (by omega)
     rw[←zu PS] at f
     have F:=zh f
     have O:=zh (out a b c q r (2*x) ok k (zu ht) f.1 a0 b0 (by omega))
     clear f D PS HD ht
     go_wp2
     ·have hb:1000000000000000<2*x:=by assumption
      obtain⟨e1,e2,e3⟩:=(zu O) hb
      go_ret3
      exact⟨by rw[e1,e2,e3];rfl,rfl⟩
     ·go_round
      case rel=>exact⟨k,2*x,2*y,by omega,by go_num,rfl,rfl,by omega,by assumption,by omega,by omega,F⟩
      case measure=>simp[intOf]
   ·have ps':=zu ps
    rw[m0,Int.one_mul] at ps'
    have PS:=zh ps'
    clear ps ps' m0
    by_cases t:c≤2*y
    ·have g:=(zu D).2 t
     have h:=step_add (2*Pn a b (k+1)) b c (2*x+1) (2*y-c) (by omega) g.1 g.2
     rw[←zu PS] at h
     have A:=zh h
     clear g h D
     by_cases s:c≤2*y-c+b%c
     ·have f:=(zu A).2 s
      have F:=zh f
      have O:=zh (out a b c q r (2*x+1+b/c+1) ok k (zu ht) f.1 a0 b0 (by omega))
      clear f A PS HD ht
      go_wp2
      ·have hb:1000000000000000<2*x+1+b/c+1:=by assumption
       obtain⟨e1,e2,e3⟩:=(zu O) hb
       go_ret3
       exact⟨by rw[e1,e2,e3];rfl,rfl⟩
      ·go_round
       case rel=>exact⟨k,2*x+1+b/c+1,2*y-c+b%c-c,by omega,by go_num,rfl,rfl,by omega,by assumption,by omega,by omega,F⟩
       case measure=>simp[intOf]
     ·have f:=(zu A).1 (by omega)
      have F:=zh f
      have O:=zh (out a b c q r (2*x+1+b/c) ok k (zu ht) f.1 a0 b0 (by omega))
      clear f A PS HD ht
      go_wp2
      ·have hb:1000000000000000<2*x+1+b/c:=by assumption
       obtain⟨e1,e2,e3⟩:=(zu O) hb
       go_ret3
       exact⟨by rw[e1,e2,e3];rfl,rfl⟩
      ·go_round
       case rel=>exact⟨k,2*x+1+b/c,2*y-c+b%c,by omega,by go_num,rfl,rfl,by omega,by assumption,by omega,by omega,F⟩
       case measure=>simp[intOf]
    ·have g:=(zu D).1 (by omega)
     have h:=step_add (2*Pn a b (k+1)) b c (2*x) (2*y) (by omega) g.1 g.2
     rw[←zu PS] at h
     have A:=zh h
     clear g h D
     by_cases s:c≤2*y+b%c
     ·have f:=(zu A).2 s
      have F:=zh f
      have O:=zh (out a b c q r (2*x+b/c+1) ok k (zu ht) f.1 a0 b0 (by omega))
      clear f A PS HD ht
      go_wp2
      ·have hb:1000000000000000<2*x+b/c+1:=by assumption
       obtain⟨e1,e2,e3⟩:=(zu O) hb
       go_ret3
       exact⟨by rw[e1,e2,e3];rfl,rfl⟩
      ·go_round
       case rel=>exact⟨k,2*x+b/c+1,2*y+b%c-c,by omega,by go_num,rfl,rfl,by omega,by assumption,by omega,by omega,F⟩
       case measure=>simp[intOf]
     ·have f:=(zu A).1 (by omega)
      have F:=zh f
      have O:=zh (out a b c q r (2*x+b/c) ok k (zu ht) f.1 a0 b0 (by omega))
      clear f A PS HD ht
      go_wp2
      ·have hb:1000000000000000<2*x+b/c:=by assumption
       obtain⟨e1,e2,e3⟩:=(zu O) hb
       go_ret3
       exact⟨by rw[e1,e2,e3];rfl,rfl⟩
      ·go_round
       case rel=>exact⟨k,2*x+b/c,2*y+b%c,by omega,by go_num,rfl,rfl,by omega,by assumption,by omega,by omega,F⟩
       case measure=>simp[intOf]
  ·obtain rfl:n=0:=by omega
   have E:=zh (fin a b c q r x y ok (zu ht) (zu HD).1 (zu HD).2 x1)
   clear HD ht
   go_wp2
   obtain⟨e1,e2,e3⟩:=zu E
   go_ret3
   exact⟨by rw[e1,e2,e3];rfl,rfl⟩
end MulC
namespace Scale
open Tup5 Lots Takes
def withQ(p:T5)(s:Int):T5:=(p.1,p.2.1,p.2.2.1,s,p.2.2.2.2)
def keptN(own:List T5)(ss:List Int):Nat→List T5
 |0=>[]
 |k+1=>keptN own ss k++(if ss.getD k 0=0 then[] else[withQ (el5 own k) (ss.getD k 0)])
def lostN(own:List T5)(ss:List Int):Nat→Int
 |0=>0
 |k+1=>lostN own ss k+(if ss.getD k 0=0 then(el5 own k).2.2.2.2 else 0)
def addFirst:List T5→Int→List T5
 |[],_=>[]
 |p::r,c=>(p.1,p.2.1,p.2.2.1,p.2.2.2.1,p.2.2.2.2+c)::r
def scaleL(own:List T5)(ss:List Int):List T5:=addFirst (keptN own ss own.length) (lostN own ss own.length)
theorem kept_len(own:List T5)(ss:List Int):∀k,(keptN own ss k).length≤k
 |0=>Nat.le_refl _
 |k+1=>by
  have:=kept_len own ss k
  unfold keptN
  rw[List.length_append]
  split<;>simp<;>omega
theorem add_len(l:List T5)(c:Int):(addFirst l c).length=l.length:=by cases l<;>rfl
theorem scale_len(own:List T5)(ss:List Int):(scaleL own ss).length≤own.length:=by
 unfold scaleL
 rw[add_len]
 exact kept_len _ _ _
theorem lost_bd{own:List T5}(h:∀p∈own,Pos p)(ss:List Int):∀k,k≤own.length→0≤lostN own ss k∧lostN own ss k+sumC (keptN own ss k)=sumC (own.take k)
 |0,_=>by simp[lostN,keptN,sumC]
 |k+1,hk=>by
  obtain⟨h1,h2⟩:=lost_bd h ss k (by omega)
  have hp:=h _ (getD_mem (ps:=own) (i:=k) (by omega))
  unfold Pos at hp
  rw[sumC_next (by omega)]
  unfold lostN keptN
  rw[sumC_append]
  by_cases e:ss.getD k 0=0
  ·rw[if_pos e,if_pos e]
   simp only[sumC]
   omega
  ·rw[if_neg e,if_neg e]
   simp only[sumC,withQ]
   omega
end Scale
namespace LotMore
open Tup5 Lots Takes Scale
theorem merge_part_l{f:T5→Bool}:∀(n:Nat) (A B:List T5),A.length+B.length≤n→(∀p∈B,f p=false)→(mergeL n A B).filter f=A.filter f
 |0,[],[],_,_=>rfl
 |0,x::A,_,h,_=>by simp at h
 |0,[],y::B,h,_=>by simp at h
 |n+1,[],B,h,hB=>by rw[merge_right _ _ (by simpa using h),filter_none hB];rfl
 |n+1,x::A,[],h,hB=>by rw[merge_left _ _ (by simpa using h)]
 |n+1,x::A,y::B,h,hB=>by
  by_cases e:Bef x y
  ·rw[merge_yes e,List.filter_cons,List.filter_cons,merge_part_l n A (y::B) (by simp at h⊢;omega) hB]
  ·rw[merge_no e,List.filter_cons_of_neg (by rw[hB y List.mem_cons_self];simp),merge_part_l n (x::A) B (by simp at h⊢;omega) (fun p hp=>hB p (List.mem_cons_of_mem _ hp))]
theorem merge_part_r{f:T5→Bool}:∀(n:Nat) (A B:List T5),A.length+B.length≤n→(∀p∈A,f p=false)→(mergeL n A B).filter f=B.filter f
 |0,[],[],_,_=>rfl
 |0,x::A,_,h,_=>by simp at h
 |0,[],y::B,h,_=>by simp at h
 |n+1,[],B,h,hB=>by rw[merge_right _ _ (by simpa using h)]
 |n+1,x::A,[],h,hB=>by rw[merge_left _ _ (by simpa using h),filter_none hB];rfl
 |n+1,x::A,y::B,h,hA=>by
  by_cases e:Bef x y
  ·rw[merge_yes e,List.filter_cons_of_neg (by rw[hA x List.mem_cons_self];simp),merge_part_r n A (y::B) (by simp at h⊢;omega) (fun p hp=>hA p (List.mem_cons_of_mem _ hp))]
  ·rw[merge_no e,List.filter_cons,List.filter_cons,merge_part_r n (x::A) B (by simp at h⊢;omega) hA]
theorem merge_mem:∀(n:Nat) (A B:List T5),A.length+B.length≤n→∀p,p∈mergeL n A B↔p∈A∨p∈B
 |0,[],[],_,p=>by simp[mergeL]
 |0,x::A,_,h,_=>by simp at h
 |0,[],y::B,h,_=>by simp at h
 |n+1,[],B,h,p=>by rw[merge_right _ _ (by simpa using h)];simp
 |n+1,x::A,[],h,p=>by rw[merge_left _ _ (by simpa using h)];simp
 |n+1,x::A,y::B,h,p=>by
  by_cases e:Bef x y
  ·rw[merge_yes e,List.mem_cons,merge_mem n A (y::B) (by simp at h⊢;omega),List.mem_cons,List.mem_cons]
   constructor
   ·rintro(h|h|h)
    ·exact .inl (.inl h)
    ·exact .inl (.inr h)
    ·exact .inr h
   ·rintro((h|h)|h)
    ·exact .inl h
    ·exact .inr (.inl h)
    ·exact .inr (.inr h)
  ·rw[merge_no e,List.mem_cons,merge_mem n (x::A) B (by simp at h⊢;omega),List.mem_cons,List.mem_cons]
   constructor
   ·rintro(h|(h|h)|h)
    ·exact .inr (.inl h)
    ·exact .inl (.inl h)
    ·exact .inl (.inr h)
    ·exact .inr (.inr h)
   ·rintro((h|h)|h|h)
    ·exact .inr (.inl (.inl h))
    ·exact .inr (.inl (.inr h))
    ·exact .inl h
    ·exact .inr (.inr h)
theorem merge_asc:∀(n:Nat) (A B:List T5),A.length+B.length≤n→A.Pairwise Bef→B.Pairwise Bef→(∀x∈A,∀y∈B,Bef x y∨Bef y x)→(mergeL n A B).Pairwise Bef
 |0,[],[],_,_,_,_=>List.Pairwise.nil
 |0,x::A,_,h,_,_,_=>by simp at h
 |0,[],y::B,h,_,_,_=>by simp at h
 |n+1,[],B,h,_,hB,_=>by rw[merge_right _ _ (by simpa using h)];exact hB
 |n+1,x::A,[],h,hA,_,_=>by rw[merge_left _ _ (by simpa using h)];exact hA
 |n+1,x::A,y::B,h,hA,hB,hX=>by
  obtain⟨a1,a2⟩:=List.pairwise_cons.1 hA
  obtain⟨b1,b2⟩:=List.pairwise_cons.1 hB
  by_cases e:Bef x y
  ·rw[merge_yes e,List.pairwise_cons]
   have hn:A.length+(y::B).length≤n:=by simp at h⊢;omega
   refine⟨fun z hz=>?_,merge_asc n A (y::B) hn a2 hB (fun x' hx y' hy=>hX x' (List.mem_cons_of_mem _ hx) y' hy)⟩
   rcases(merge_mem n A (y::B) hn z).1 hz with h|h
   ·exact a1 z h
   ·rcases List.mem_cons.1 h with rfl|h
    ·exact e
    ·exact bef_trans e (b1 z h)
  ·rw[merge_no e,List.pairwise_cons]
   have e':Bef y x:=(hX x List.mem_cons_self y List.mem_cons_self).resolve_left e
   have hn:(x::A).length+B.length≤n:=by simp at h⊢;omega
   refine⟨fun z hz=>?_,merge_asc n (x::A) B hn hA b2 (fun x' hx y' hy=>hX x' hx y' (List.mem_cons_of_mem _ hy))⟩
   rcases(merge_mem n (x::A) B hn z).1 hz with h|h
   ·rcases List.mem_cons.1 h with rfl|h
    ·exact e'
    ·exact bef_trans e' (a1 z h)
   ·exact b1 z h
theorem right_of{ps:List T5}(h120:ps.length≤120)(h1:∀p∈ps,One p)(h2:ps.Pairwise Bef)(h3:∀a i,qtyOf ps a i≤1000000000000000∧costOf ps a i≤1000000000000000):Right ps:=by
 refine⟨h120,fun i hi=>⟨h1 _ (getD_mem hi),fun i0=>?_⟩,h3⟩
 have:=List.pairwise_iff_getElem.1 h2 (i-1) i (by omega) hi (by omega)
 simpa[el5,List.getD,hi,show i-1<ps.length by omega] using this
theorem right_one{ps:List T5}(h:Right ps):∀p∈ps,One p:=fun p hp=>by
 obtain⟨j,hj,rfl⟩:=mem_getD hp
 exact(h.2.1 j hj).1
theorem own_rest_len(a i:Int):∀(ps:List T5),(ownL ps a i).length+(restL ps a i).length=ps.length
 |[]=>rfl
 |p::r=>by
  have:=own_rest_len a i r
  unfold ownL restL at this⊢
  by_cases e:p.1=a∧p.2.1=i
  ·rw[List.filter_cons_of_pos (by simpa using e),List.filter_cons_of_neg (by simp[e])]
   simp only[List.length_cons]
   omega
  ·rw[List.filter_cons_of_neg (by simpa using e),List.filter_cons_of_pos (by simp[e])]
   simp only[List.length_cons]
   omega
theorem key_own{ps:List T5}{a i:Int}{p:T5}(h:p∈ownL ps a i):p.1=a∧p.2.1=i:=by simpa using(List.mem_filter.1 h).2
theorem key_rest{ps:List T5}{a i:Int}{p:T5}(h:p∈restL ps a i):¬(p.1=a∧p.2.1=i):=by
 have:=(List.mem_filter.1 h).2
 intro e
 rw[decide_eq_true e] at this
 simp at this
theorem own_of_rest{a i b j:Int}(h:¬(b=a∧j=i))(ps:List T5):ownL (restL ps a i) b j=ownL ps b j:=by
 unfold ownL restL
 rw[List.filter_filter]
 apply List.filter_congr
 intro p _
 by_cases e:p.1=b∧p.2.1=j
 ·have:¬(p.1=a∧p.2.1=i):=fun k=>h ⟨e.1.symm.trans k.1,e.2.symm.trans k.2⟩
  simp[e,this,h]
 ·simp[e]
structure Fits(ps L:List T5)(a i:Int):Prop where
 key:∀p∈L,p.1=a∧p.2.1=i
 one:∀p∈L,One p
 asc:L.Pairwise Bef
 len:L.length≤(ownL ps a i).length
 qty:sumQ L≤1000000000000000
 cost:sumC L≤1000000000000000
theorem Fits.own{ps L:List T5}{a i:Int}{n:Nat}(f:Fits ps L a i)(hn:(restL ps a i).length+L.length≤n):ownL (mergeL n (restL ps a i) L) a i=L:=by
 unfold ownL
 rw[merge_part_r n _ _ hn (fun p hp=>decide_eq_false (key_rest hp)),filter_all (fun p hp=>decide_eq_true (f.key p hp))]
theorem Fits.other{ps L:List T5}{a i b j:Int}{n:Nat}(f:Fits ps L a i)(hn:(restL ps a i).length+L.length≤n)(h:¬(b=a∧j=i)):ownL (mergeL n (restL ps a i) L) b j=ownL ps b j:=by
 rw[←own_of_rest h ps]
 unfold ownL
 exact merge_part_l n _ _ hn (fun p hp=>decide_eq_false fun e=>h ⟨e.1.symm.trans (f.key p hp).1,e.2.symm.trans (f.key p hp).2⟩)
theorem Fits.right{ps L:List T5}{a i:Int}{n:Nat}(f:Fits ps L a i)(h:Right ps)(hn:(restL ps a i).length+L.length≤n):Right (mergeL n (restL ps a i) L):=by
 refine right_of ?_ (fun p hp=>?_) ?_ (fun b j=>?_)
 ·rw[merge_len _ _ _ hn]
  have:=own_rest_len a i ps
  have:=f.len
  have:=h.1
  omega
 ·rcases(merge_mem n _ _ hn p).1 hp with h1|h1
  ·exact right_one h p (List.mem_filter.1 h1).1
  ·exact f.one p h1
 ·refine merge_asc n _ _ hn (own_asc h.asc a i).2 f.asc (fun x hx y hy=>?_)
  have h1:=key_rest hx
  have h2:=f.key y hy
  unfold Bef
  omega
 ·obtain⟨e1,e2⟩:=own_sums b j (mergeL n (restL ps a i) L)
  rw[←e1,←e2]
  by_cases e:b=a∧j=i
  ·obtain⟨rfl,rfl⟩:=e
   rw[f.own hn]
   exact⟨f.qty,f.cost⟩
  ·rw[f.other hn e]
   exact(own_pos h b j).2
def k3(p:T5):Int×Int×Int:=(p.1,p.2.1,p.2.2.1)
def Bef3(p q:Int×Int×Int):Prop:=p.1<q.1∨(p.1=q.1∧(p.2.1<q.2.1∨(p.2.1=q.2.1∧p.2.2<q.2.2)))
theorem asc_k3(l:List T5):l.Pairwise Bef↔(l.map k3).Pairwise Bef3:=by
 rw[List.pairwise_map]
 exact Iff.rfl
theorem leftF_shape:∀(l:List T5) (q:Int),(∀p∈l,Pos p)→leftF l q=[]∨∃(A:List T5) (p p':T5) (r:List T5),l=A++p::r∧leftF l q=p'::r∧k3 p'=k3 p∧1≤p'.2.2.2.1∧p'.2.2.2.1≤p.2.2.2.1∧0≤p'.2.2.2.2∧p'.2.2.2.2≤p.2.2.2.2
 |[],q,_=> .inl rfl
 |p::r,q,h=>by
  have hp:=h p List.mem_cons_self
  have hp2:=hp
  unfold Pos at hp
  rw[leftF_cons]
  by_cases c1:q≤0
  ·rw[if_pos c1]
   exact .inr ⟨[],p,p,r,rfl,rfl,rfl,hp.1.1,Int.le_refl _,hp.2.1,Int.le_refl _⟩
  ·rw[if_neg c1]
   by_cases c2:p.2.2.2.1≤q
   ·rw[if_pos c2]
    rcases leftF_shape r (q-p.2.2.2.1) (fun z hz=>h z (List.mem_cons_of_mem _ hz)) with e|⟨A,x,x',s,e1,e2,e3⟩
    ·exact .inl e
    ·exact .inr ⟨p::A,x,x',s,by rw[e1];rfl,e2,e3⟩
   ·rw[if_neg c2]
    have d:=div_le (c:=p.2.2.2.2) (t:=q) (x:=p.2.2.2.1) hp.2.1 (by omega) (by omega) hp.1.1
    refine .inr ⟨[],p,_,r,rfl,rfl,rfl,?_,?_,?_,?_⟩
    ·show 1≤p.2.2.2.1-q;omega
    ·show p.2.2.2.1-q≤p.2.2.2.1;omega
    ·show 0≤p.2.2.2.2-p.2.2.2.2*q/p.2.2.2.1;omega
    ·show p.2.2.2.2-p.2.2.2.2*q/p.2.2.2.1≤p.2.2.2.2;omega
theorem leftF_sums:∀(l:List T5) (q:Int),(∀p∈l,Pos p)→0≤q→q≤sumQ l→sumQ (leftF l q)=sumQ l-q∧sumC (leftF l q)=sumC l-costF l q
 |[],q,_,q0,q1=>by
  have:q=0:=by simp[sumQ] at q1;omega
  subst this
  simp[leftF,costF,sumQ,sumC]
 |p::r,q,h,q0,q1=>by
  rw[leftF_cons,costF_cons]
  by_cases c1:q≤0
  ·have:q=0:=by omega
   rw[if_pos c1,if_pos c1]
   simp only[sumQ,sumC]
   omega
  ·rw[if_neg c1,if_neg c1]
   by_cases c2:p.2.2.2.1≤q
   ·rw[if_pos c2,if_pos c2]
    simp only[sumQ] at q1
    obtain⟨e1,e2⟩:=leftF_sums r (q-p.2.2.2.1) (fun z hz=>h z (List.mem_cons_of_mem _ hz)) (by omega) (by omega)
    simp only[sumQ,sumC]
    omega
   ·rw[if_neg c2,if_neg c2]
    simp only[sumQ,sumC]
    omega
section
variable {way q:Int} {own:List T5}
theorem take_sums(h:∀p∈own,Pos p)(hw:1≤way∧way≤3)(q1:1≤q)(q2:q≤sumQ own):sumQ (takeL way own q)=sumQ own-q∧sumC (takeL way own q)=sumC own-takeC way own q:=by
 unfold takeL takeC
 by_cases w:way=3
 ·rw[if_pos w,if_pos w]
  unfold meanL meanC
  by_cases e:q=sumQ own
  ·rw[if_pos e,←e,Int.mul_ediv_cancel _ (by omega)]
   simp only[sumQ,sumC]
   omega
  ·rw[if_neg e]
   simp only[sumQ,sumC]
   omega
 ·rw[if_neg w,if_neg w]
  unfold leftW costW
  obtain⟨d1,d2⟩:=dir_sum way (leftF (dirL way own) q)
  obtain⟨d3,d4⟩:=dir_sum way own
  obtain⟨e1,e2⟩:=leftF_sums (dirL way own) q (fun p hp=>h p (dir_mem.1 hp)) (by omega) (by omega)
  rw[d1,d2,e1,e2,d3,d4]
  exact⟨rfl,rfl⟩
theorem takeC_bd(h:∀p∈own,Pos p)(q1:1≤q)(q2:q≤sumQ own):0≤takeC way own q∧takeC way own q≤sumC own:=by
 unfold takeC
 have sp:=sum_pos own h
 by_cases w:way=3
 ·rw[if_pos w]
  unfold meanC
  exact div_le sp.2 (by omega) q2 (by omega)
 ·rw[if_neg w]
  unfold costW
  have:=costF_bd (dirL way own) q (by omega) (fun p hp=>h p (dir_mem.1 hp))
  rw[(dir_sum way own).2] at this
  exact this
end
theorem dir_map{way:Int}(f:T5→Int×Int×Int)(l:List T5):(dirL way l).map f=if way=2 then(l.map f).reverse else l.map f:=by
 unfold dirL
 split
 ·rw[List.map_reverse]
 ·rfl
theorem take_subl{way q:Int}{own:List T5}(h:∀p∈own,Pos p)(ne:0<own.length):((takeL way own q).map k3).Sublist (own.map k3):=by
 unfold takeL
 by_cases w:way=3
 ·rw[if_pos w]
  unfold meanL
  split
  ·exact List.nil_sublist _
  ·cases own with
   |nil=>simp at ne
   |cons p r=>exact List.Sublist.cons_cons _ (List.nil_sublist _)
 ·rw[if_neg w]
  unfold leftW
  have key:((leftF (dirL way own) q).map k3).Sublist ((dirL way own).map k3):=by
   rcases leftF_shape (dirL way own) q (fun p hp=>h p (dir_mem.1 hp)) with e|⟨A,p,p',r,e1,e2,e3,_⟩
   ·rw[e];exact List.nil_sublist _
   ·rw[e2,e1,List.map_append,List.map_cons,List.map_cons,e3]
    exact List.sublist_append_right _ _
  rw[dir_map]
  rw[dir_map] at key
  by_cases w2:way=2
  ·rw[if_pos w2] at key⊢
   have:=key.reverse
   rwa [List.reverse_reverse] at this
  ·rw[if_neg w2] at key⊢
   exact key
theorem one_of{p p':T5}(h:One p)(k:k3 p'=k3 p)(h1:1≤p'.2.2.2.1∧p'.2.2.2.1≤1000000000000000)(h2:0≤p'.2.2.2.2∧p'.2.2.2.2≤1000000000000000):One p':=by
 unfold k3 at k
 simp only[Prod.mk.injEq] at k
 obtain⟨k1,k2,k4⟩:=k
 obtain⟨a,b,c,_⟩:=h
 exact⟨by rw[k1];exact a,by rw[k2];exact b,by rw[k4];exact c,h1,h2⟩
theorem take_one{way q:Int}{own:List T5}(h1:∀p∈own,One p)(hq:sumQ own≤1000000000000000)(hc:sumC own≤1000000000000000)(ne:0<own.length)(hw:1≤way∧way≤3)(q1:1≤q)(q2:q≤sumQ own):∀p∈takeL way own q,One p:=by
 have h:∀p∈own,Pos p:=fun p hp=>(h1 p hp).2.2.2
 unfold takeL
 by_cases w:way=3
 ·rw[if_pos w]
  unfold meanL
  split
  ·exact fun p hp=>absurd hp List.not_mem_nil
  ·intro p hp
   rw[List.mem_singleton] at hp
   subst hp
   have sp:=sum_pos own h
   have d:=div_le sp.2 (show(0:Int)≤q by omega) q2 (by omega)
   refine one_of (h1 (el5 own 0) (getD_mem ne)) rfl ⟨?_,?_⟩ ⟨?_,?_⟩
   ·show 1≤sumQ own-q;omega
   ·show sumQ own-q≤_;omega
   ·show 0≤sumC own-sumC own*q/sumQ own;omega
   ·show sumC own-sumC own*q/sumQ own≤_;omega
 ·rw[if_neg w]
  unfold leftW
  intro p hp
  have hp:=dir_mem.1 hp
  rcases leftF_shape (dirL way own) q (fun p hp=>h p (dir_mem.1 hp)) with e|⟨A,x,x',r,e1,e2,e3,e4,e5,e6,e7⟩
  ·rw[e] at hp;exact absurd hp List.not_mem_nil
  ·rw[e2] at hp
   have mx:x∈own:=dir_mem.1 (by rw[e1];simp)
   rcases List.mem_cons.1 hp with rfl|hp
   ·have:=h1 x mx
    have:=this.2.2.2
    exact one_of (h1 x mx) e3 (by omega) (by omega)
   ·exact h1 p (dir_mem.1 (by rw[e1];simp[hp]))
theorem take_fits{ps:List T5}{a i way q:Int}(h:Right ps)(hw:1≤way∧way≤3)(q1:1≤q)(q2:q≤sumQ (ownL ps a i)):Fits ps (takeL way (ownL ps a i) q) a i:=by
 obtain⟨hp,s1,s2⟩:=own_pos h a i
 have on0:0<(ownL ps a i).length:=by
  generalize ownL ps a i=own at q2
  cases own with
  |nil=>simp[sumQ] at q2;omega
  |cons x r=>simp
 have tk:=takeL_key (way:=way) (q:=q) (own:=ownL ps a i) (a:=a) (i:=i) (fun p hp=>key_own hp) on0
 have ts:=take_sums hp hw q1 q2
 have tb:=takeC_bd (way:=way) hp q1 q2
 refine⟨tk.1,take_one (fun p hp=>right_one h p (List.mem_filter.1 hp).1) s1 s2 on0 hw q1 q2,?_,tk.2,by omega,by omega⟩
 rw[asc_k3]
 exact((asc_k3 _).1 (own_asc h.asc a i).1).sublist (take_subl hp on0)
end LotMore
namespace Weigh
open Ints
def S(xs:List Int):Nat→Int
 |0=>0
 |k+1=>S xs k+xs.getD k 0
def Wt(x:Int):Prop:=0≤x∧x≤1000000000000000
def Good(xs:List Int):Prop:=
 (1≤xs.length∧xs.length≤40)∧(∀i,i<xs.length→Wt (xs.getD i 0))∧1≤S xs xs.length∧S xs xs.length≤1000000000000000
theorem S_nonneg(xs:List Int)(n:Nat)(h:∀i,i<n→Wt (xs.getD i 0)):0≤S xs n:=by
 induction n with
 |zero=>exact Int.le_refl _
 |succ n ih=>
  have:=ih (fun i hi=>h i (by omega))
  have:=(h n (by omega)).1
  show 0≤S xs n+xs.getD n 0
  omega
theorem S_le(xs:List Int)(n:Nat)(h:∀i,i<n→Wt (xs.getD i 0)):S xs n≤1000000000000000*(n:Int):=by
 induction n with
 |zero=>simp[S]
 |succ n ih=>
  have:=ih (fun i hi=>h i (by omega))
  have:=(h n (by omega)).2
  show S xs n+xs.getD n 0≤_
  omega
theorem S_mono(xs:List Int)(k n:Nat)(hk:k≤n)(h:∀i,i<n→Wt (xs.getD i 0)):S xs k≤S xs n:=by
 induction n with
 |zero=>
  obtain rfl:k=0:=by omega
  exact Int.le_refl _
 |succ n ih=>
  by_cases e:k=n+1
  ·subst e;exact Int.le_refl _
  ·have:=ih (by omega) (fun i hi=>h i (by omega))
   have:=(h n (by omega)).1
   show _≤S xs n+xs.getD n 0
   omega
theorem S_one(xs:List Int)(i n:Nat)(hi:i<n)(h:∀i,i<n→Wt (xs.getD i 0)):xs.getD i 0≤S xs n:=by
 have:=S_mono xs (i+1) n (by omega) h
 have:=S_nonneg xs i (fun j hj=>h j (by omega))
 have e:S xs (i+1)=S xs i+xs.getD i 0:=rfl
 omega
theorem sAll(w:World)(g n cap:Nat)(xs:List Int)(hl:xs.length=n)(h40:n≤40)(hx:∀i,i<n→Wt (xs.getD i 0))(h:At w g xs):
  Calls Tryz.prog 113 #[.slice (some ⟨g,0,none⟩) n cap] w fun e w'=>e= .returned (.int .i64 (S xs n))∧w'=w:=by
 go_enter Tryz.func113,Tryz.ntmps113
 go_wp2
 go_loop [3,4] (fun s i=>∃(k:Nat),k≤n∧i= .int .i64 k∧s= .int .i64 (S xs k)) (fun _ i=>n-(intOf i).toNat)
 case atStart=>exact⟨0,by omega,rfl,rfl⟩
 case round=>
  obtain⟨k,hk,rfl,rfl⟩:=hrel
  by_cases t:k<n
  ·have e1:=h k (by omega)
   have s0:=S_nonneg xs k (fun i hi=>hx i (by omega))
   have s1:=S_le xs k (fun i hi=>hx i (by omega))
   obtain⟨x0,x1⟩:=hx k t
   have E:=zh (show S xs (k+1)=S xs k+xs.getD k 0 from rfl)
   clear h hx
   generalize xs.getD k 0=z at *
   generalize S xs k=s at *
   go_wp2
   go_round
   case rel=>exact⟨k+1,by omega,by go_num,by rw[zu E]⟩
   case measure=>simp[intOf];omega
  ·obtain rfl:k=n:=by omega
   clear h hx
   go_wp2
   go_ret
   exact⟨rfl,rfl⟩
theorem sIn(x lo hi:Int)(b:Bool)(w:World)(hb:Hid (b=true↔lo≤x∧x≤hi)):
  Calls Tryz.prog 38 #[.int .i64 x,.int .i64 lo,.int .i64 hi] w fun e w'=>e= .returned (.bool b)∧w'=w:=by
 cases b
 ·have H:=zh (show lo≤x→¬x≤hi from fun h1 h2=>Bool.noConfusion ((zu hb).2 ⟨h1,h2⟩))
  clear hb
  by_cases h1:lo≤x
  ·have h2:=(zu H) h1
   clear H
   go_enter Tryz.func38,Tryz.ntmps38
   go_wp2
   go_ret
   exact⟨rfl,rfl⟩
  ·clear H
   go_enter Tryz.func38,Tryz.ntmps38
   go_wp2
   go_ret
   exact⟨rfl,rfl⟩
 ·obtain⟨h1,h2⟩:=(zu hb).1 rfl
  clear hb
  go_enter Tryz.func38,Tryz.ntmps38
  go_wp2
  go_ret
  exact⟨rfl,rfl⟩
theorem sSome(x lo:Int)(b:Bool)(w:World)(hb:Hid (b=true↔lo≤x∧x≤1000000000000000)):
  Calls Tryz.prog 19 #[.int .i64 x,.int .i64 lo] w fun e w'=>e= .returned (.bool b)∧w'=w:=by
 go_enter Tryz.func19,Tryz.ntmps19
 go_wp2_with fail
 refine(sIn x lo 1000000000000000 b _ hb).mono ?_
 rintro e w' ⟨rfl,rfl⟩
 go_wp2
 go_ret
 exact⟨rfl,rfl⟩
theorem sWeights(w:World)(g n cap:Nat)(xs:List Int)(ok:Bool)(hl:xs.length=n)(h20:n≤1048576)(h:At w g xs)(hok:Hid (ok=true↔Good xs)):
  Calls Tryz.prog 104 #[.slice (some ⟨g,0,none⟩) n cap] w fun e w'=>e= .returned (.bool ok)∧w'=w:=by
 by_cases nn:(1:Int)≤(n:Int)∧(n:Int)≤40
 ·have NN:=zh nn
  clear nn
  go_enter Tryz.func104,Tryz.ntmps104
  go_wp2_with fail
  refine(sIn n 1 40 true _ (zh ⟨fun _=>zu NN,fun _=>rfl⟩)).mono ?_
  rintro e w' ⟨rfl,rfl⟩
  go_wp2
  go_loop [3] (fun i=>∃(k:Nat),k≤n∧i= .int .i64 k∧Hid (∀i,i<k→Wt (xs.getD i 0))) (fun i=>n-(intOf i).toNat)
  case atStart=>exact⟨0,by omega,rfl,zh (fun i hi=>absurd hi (by omega))⟩
  case round=>
   obtain⟨k,hk,rfl,HG⟩:=hrel
   by_cases t:k<n
   ·have e1:=h k (by omega)
    clear h
    have K:=zh (show Wt (xs.getD k 0)→∀i,i<k+1→Wt (xs.getD i 0) from fun hw i hi=>by
     by_cases e:i=k
     ·subst e;exact hw
     ·exact zu HG i (by omega))
    have F:=zh (show ¬Wt (xs.getD k 0)→ok=false from fun hw=>by
     cases hh:ok
     ·rfl
     ·exact absurd (((zu hok).1 hh).2.1 k (by omega)) hw)
    clear hok
    generalize xs.getD k 0=z at *
    by_cases z0:Wt z
    ·have Z:=zh z0
     clear z0
     go_wp2_with fail
     refine(sSome z 0 true _ (zh ⟨fun _=>zu Z,fun _=>rfl⟩)).mono ?_
     rintro e w' ⟨rfl,rfl⟩
     go_wp2
     go_round
     case rel=>exact⟨k+1,by omega,by go_num,zh ((zu K) (zu Z))⟩
     case measure=>simp[intOf];omega
    ·have Z:=zh z0
     clear z0
     go_wp2_with fail
     refine(sSome z 0 false _ (zh ⟨fun h=>Bool.noConfusion h,fun h=>absurd h (zu Z)⟩)).mono ?_
     rintro e w' ⟨rfl,rfl⟩
     go_wp2
     go_ret
     exact⟨by rw[(zu F) (zu Z)];rfl,rfl⟩
   ·obtain rfl:k=n:=by omega
    have c:=sAll _ g k cap xs hl (by have:=zu NN;omega) (zu HG) h
    have F:=zh (show ok=true↔(1≤S xs k∧S xs k≤1000000000000000) from by
     rw[zu hok];unfold Good;rw[hl]
     have:=zu NN
     exact⟨fun hh=>hh.2.2,fun hh=>⟨⟨by omega,by omega⟩,zu HG,hh⟩⟩)
    clear h hok HG
    generalize S xs k=s at *
    go_wp2_with fail
    refine c.mono ?_
    rintro e w' ⟨rfl,rfl⟩
    go_wp2_with fail
    refine(sSome s 1 ok _ F).mono ?_
    rintro e w' ⟨rfl,rfl⟩
    go_wp2
    go_ret
    exact⟨rfl,rfl⟩
 ·have F:Hid (ok=false):=by
   refine zh ?_
   cases hh:ok
   ·rfl
   ·have:=((zu hok).1 hh).1;omega
  have NN:=zh nn
  clear nn
  clear h hok
  go_enter Tryz.func104,Tryz.ntmps104
  go_wp2_with fail
  refine(sIn n 1 40 false _ (zh ⟨fun h=>Bool.noConfusion h,fun h=>absurd h (zu NN)⟩)).mono ?_
  rintro e w' ⟨rfl,rfl⟩
  go_wp2
  go_ret
  exact⟨by rw[zu F];rfl,rfl⟩
end Weigh
namespace SCmd
open Lots (Says says_of)
theorem zh{p:Prop}(h:p):Hid p:=h
theorem zu{p:Prop}(h:Hid p):p:=h
theorem one_more(w:World)(o:Obj):Below w.heap.size w (w.alloc o):=(Below.refl _ _).alloc (Nat.le_refl _) _
def nArgs(k:Int):Int:=if k=1∨k=2∨k=7 then 2 else if k=3∨k=4 then 5 else if k=5∨k=9 then 7 else if k=6 then 1 else if k=8 then 3 else if k=10∨k=11 then 4 else-1
def CmOk(k:Int)(xs:List Int):Prop:=(xs.length:Int)=nArgs k∧∀i,i<xs.length→0≤xs.getD i 0∧xs.getD i 0≤1000000000000000
theorem nArgs_le(k:Int):nArgs k≤7:=by
 unfold nArgs
 repeat' split
 all_goals omega
theorem sArgs(w:World)(k:Int):Calls Tryz.prog 18 #[.int .i64 k] w fun e w'=>e= .returned (.int .i64 (nArgs k))∧Below w.heap.size w w':=by
 by_cases h0:k<1
 ·have e:nArgs k= -1:=by
   unfold nArgs
   repeat' split
   all_goals omega
  have q:¬1≤k:=by omega
  rw[e]
  clear h0 e
  go_enter Tryz.func18,Tryz.ntmps18
  go_wp2
  go_ret
  exact⟨rfl,Below.refl _ _⟩
 by_cases h1:11<k
 ·have e:nArgs k= -1:=by
   unfold nArgs
   repeat' split
   all_goals omega
  have q:1≤k:=by omega
  have q1:¬k≤11:=by omega
  rw[e]
  clear h0 h1 e
  go_enter Tryz.func18,Tryz.ntmps18
  go_wp2
  go_ret
  exact⟨rfl,Below.refl _ _⟩
 have:k=1∨k=2∨k=3∨k=4∨k=5∨k=6∨k=7∨k=8∨k=9∨k=10∨k=11:=by omega
 rcases this with rfl|rfl|rfl|rfl|rfl|rfl|rfl|rfl|rfl|rfl|rfl
 all_goals
  clear h0 h1
  go_enter Tryz.func18,Tryz.ntmps18
  go_wp2
  go_ret
  exact⟨rfl,one_more _ _⟩
theorem below_of_drew{w w':World}(h:Below w.drew.heap.size w.drew w'):Below w.heap.size w w':=⟨h.os,h.tape,h.output,h.size,h.block⟩
structure Cb(w W:World)(k:Int)(g cap:Nat)(xs:List Int):Prop where
 r:Ints.At W g xs
 l:g<W.heap.size
 c:W.cell? ⟨w.heap.size,0,none⟩=some (.int .i64 k)∧W.cell? ⟨w.heap.size,1,none⟩=some (.slice (some ⟨g,0,none⟩) xs.length cap)
 b:Below w.heap.size w W
 s:w.heap.size<W.heap.size
theorem Cb.step{w W W':World}{k:Int}{g cap:Nat}{xs:List Int}(h:Cb w W k g cap xs)(q:Below W.heap.size W W'):Cb w W' k g cap xs:=
 ⟨h.r.below q h.l,Nat.lt_of_lt_of_le h.l q.size,⟨(q.cell (p:=⟨w.heap.size,0,none⟩) h.s).trans h.c.1,(q.cell (p:=⟨w.heap.size,1,none⟩) h.s).trans h.c.2⟩,h.b.trans (q.mono (Nat.le_of_lt h.s)),Nat.lt_of_lt_of_le h.s q.size⟩
theorem Cb.start{w:World}{k:Int}{g cap:Nat}{xs:List Int}(h:Ints.At w g xs)(hg:g<w.heap.size)(e:TypeId):Cb w (w.alloc (.cells #[.int .i64 k,.slice (some ⟨g,0,none⟩) xs.length cap] e)) k g cap xs:=
 ⟨h.below (one_more _ _) hg,Nat.lt_of_lt_of_le hg (one_more _ _).size,⟨by simp,by simp⟩,one_more _ _,by simp⟩
theorem sCmdOk(w:World)(k:Int)(g cap:Nat)(xs:List Int)(b:Bool)(h20:xs.length≤1048576)(hg:g<w.heap.size)(hr:Ints.At w g xs)(hb:Says b (CmOk k xs)):
  Calls Tryz.prog 7 #[.agg #[.int .i64 k,.slice (some ⟨g,0,none⟩) xs.length cap]] w fun e w'=>e= .returned (.bool b)∧Below w.heap.size w w':=by
 have T:=zh hb
 have L0:=zh (Cb.start (k:=k) (cap:=cap) hr hg 26)
 clear hr hg hb
 by_cases a0:nArgs k<0
 ·have F:=zh ((zu T).not (fun h=>by have:=h.1;omega))
  clear T
  have A0:=zh a0
  generalize hn:nArgs k=n at *
  have HN:=zh hn
  clear hn
  go_enter Tryz.func7,Tryz.ntmps7
  go_wp2_with fail
  have K0:=(zu L0).c
  refine wp_region_held_drew (S:=(fun w'=>w'.cell? ⟨w.heap.size,0,none⟩=some (.int .i64 k)∧w'.cell? ⟨w.heap.size,1,none⟩=some (.slice (some ⟨g,0,none⟩) xs.length cap))) (by kernel_rfl) K0 (fun hHeld=>?_)
  refine zT 0 4 (.pointer (some ⟨w.heap.size,0,none⟩)) rfl hHeld ?_
  refine zT 1 5 (.int .i64 k) rfl hHeld ?_
  try simp only[Act.put,zA,zB,zC]
  refine zR 2 rfl (fun K hK=>?_)
  go_simp
  go_wp2_with fail
  refine(sArgs _ k).mono ?_
  rintro e u1 ⟨rfl,bb⟩
  rw[zu HN]
  have L1:=zh ((zu L0).step (below_of_drew bb))
  have K1:=(zu L1).c
  clear bb
  go_wp2_with fail
  refine hK.out _ _ K1 (fun hHeld=>?_)
  clear hK K
  refine zT 3 7 (.bool true) rfl hHeld ?_
  refine zT 4 8 (.bool true) rfl hHeld ?_
  refine zS 5 9 rfl hHeld ?_
  refine zS 6 10 rfl hHeld ?_
  refine zS 7 11 rfl hHeld ?_
  refine zS 8 12 rfl hHeld ?_
  refine zS 9 13 rfl hHeld ?_
  refine zS 10 14 rfl hHeld ?_
  refine zS 11 15 rfl hHeld ?_
  refine zT 12 16 (.bool true) rfl hHeld ?_
  try simp only[Act.put,zA,zB,zC]
  refine wpAnyH_done (by kernel_rfl) ?_ _
  clear K0 K1
  go_wp2
  go_ret
  exact⟨by rw[zu F];rfl,(zu L1).b⟩
 by_cases a1:(xs.length:Int)=nArgs k
 case neg=>
  have F:=zh ((zu T).not (fun h=>a1 h.1))
  clear T
  generalize hn:nArgs k=n at *
  have HN:=zh hn
  have h1:((xs.length:Int) !=n)=true:=by simpa using a1
  have a2:decide (n<0)=false:=by simpa using a0
  have a3:0≤n:=by omega
  clear hn a1
  go_enter Tryz.func7,Tryz.ntmps7
  go_wp2_with fail
  have K0:=(zu L0).c
  go_region_held3 (fun w'=>w'.cell? ⟨w.heap.size,0,none⟩=some (.int .i64 k)∧w'.cell? ⟨w.heap.size,1,none⟩=some (.slice (some ⟨g,0,none⟩) xs.length cap)) (first|exact K0|exact K1|exact K2)
   (first|(go_at_call 18;refine(sArgs u1 k).mono ?_;rintro e u2 ⟨rfl,bb⟩;rw[zu HN];have L2:=zh ((zu L1).step bb);have K2:=(zu L2).c;clear bb)|(go_at_call 18;refine(sArgs _ k).mono ?_;rintro e u1 ⟨rfl,bb⟩;rw[zu HN];have L1:=zh ((zu L0).step (below_of_drew bb));have K1:=(zu L1).c;clear bb))
  clear K0 K1 K2
  go_wp2
  go_ret
  exact⟨by rw[zu F];rfl,(zu L2).b⟩
 have A1:=zh a1
 generalize hn:nArgs k=n at *
 have HN:=zh hn
 have h1:((xs.length:Int) !=n)=false:=by simpa using a1
 have a2:decide (n<0)=false:=by simpa using a0
 have a3:0≤n:=by omega
 clear hn a1
 go_enter Tryz.func7,Tryz.ntmps7
 go_wp2_with fail
 have K0:=(zu L0).c
 go_region_held3 (fun w'=>w'.cell? ⟨w.heap.size,0,none⟩=some (.int .i64 k)∧w'.cell? ⟨w.heap.size,1,none⟩=some (.slice (some ⟨g,0,none⟩) xs.length cap)) (first|exact K0|exact K1|exact K2)
  (first|(go_at_call 18;refine(sArgs u1 k).mono ?_;rintro e u2 ⟨rfl,bb⟩;rw[zu HN];have L2:=zh ((zu L1).step bb);have K2:=(zu L2).c;clear bb)|(go_at_call 18;refine(sArgs _ k).mono ?_;rintro e u1 ⟨rfl,bb⟩;rw[zu HN];have L1:=zh ((zu L0).step (below_of_drew bb));have K1:=(zu L1).c;clear bb))
 clear K0 K1 K2
 go_wp2
 clear a0 h1
 go_loopw [3] (fun i wr=>∃(j:Nat),j≤xs.length∧i= .int .i64 j∧Cb w wr k g cap xs∧Hid (∀i,i<j→0≤xs.getD i 0∧xs.getD i 0≤1000000000000000)) (fun i _=>xs.length-(intOf i).toNat)
 case atStart=>exact⟨0,by omega,rfl,zu L2,zh (fun i hi=>absurd hi (by omega))⟩
 case round=>
  obtain⟨j,hj,rfl,hS,HG⟩:=hrel
  clear L0 L1 L2
  obtain⟨c0,c1⟩:=hS.c
  by_cases t:j<xs.length
  ·have d:=hS.r j t
   have BAD:=zh (show ¬(0≤xs.getD j 0∧xs.getD j 0≤1000000000000000)→b=false from fun hr=>(zu T).not (fun r=>hr (r.2 j t)))
   have GOOD:=zh (show(0≤xs.getD j 0∧xs.getD j 0≤1000000000000000)→∀i,i<j+1→0≤xs.getD i 0∧xs.getD i 0≤1000000000000000 from fun hr i hi=>by
    by_cases e:i=j
    ·subst e;exact hr
    ·exact(zu HG) i (by omega))
   have S1:=zh hS
   clear HG hS
   generalize xs.getD j 0=v at *
   by_cases v0:0≤v
   case neg=>
    have F:=zh ((zu BAD) (fun h=>v0 h.1))
    clear BAD GOOD T
    go_wp2
    go_ret
    exact⟨by rw[zu F];rfl,(zu S1).b⟩
   by_cases v1:v≤1000000000000000
   case neg=>
    have F:=zh ((zu BAD) (fun h=>v1 h.2))
    clear BAD GOOD T
    go_wp2
    go_ret
    exact⟨by rw[zu F];rfl,(zu S1).b⟩
   have G:=zh ((zu GOOD) ⟨v0,v1⟩)
   clear BAD GOOD
   go_wp2
   go_roundw
   case rel=>exact⟨j+1,by omega,by go_num,zu S1,G⟩
   case measure=>simp[intOf];omega
  ·have F:=zh ((zu T).of ⟨by rw[zu HN];exact zu A1,fun i hi=>(zu HG) i (by omega)⟩)
   have S1:=zh hS
   clear hS
   go_wp2
   go_ret
   exact⟨by rw[zu F];rfl,(zu S1).b⟩
end SCmd
end Go.Proofs.YtcjgepkdpkhljaaGreat
