/- Lemmas. -/
import Derived.Test.YtcjgepkdpkhljaaGreatQG3
import Derived.Handy
open Go.ChangeShapes Go.WideShapes Go.ChangeAt Go.RowKit
set_option linter.unusedVariables false
set_option linter.unusedSimpArgs false
set_option maxRecDepth 100000
set_option maxHeartbeats 32000000
namespace Go.Proofs.YtcjgepkdpkhljaaGreat
namespace ICmd10
open SCmd
open Lots (Says says_of)
def Ptr(w:World)(g p n:Nat):Prop:=∀i,i<n→w.cell? ⟨g,i,none⟩=some (.pointer (some ⟨p,i,none⟩))
def ToldP(w:World)(p n:Nat)(e:Ending)(w':World):Prop:=∃g,e= .returned (.slice (some ⟨g,0,none⟩) n n)∧Ptr w' g p n∧(w.heap.size≤g∧g<w'.heap.size)∧Below w.heap.size w w'
theorem at_account(w:World)(p:Nat):Calls Tryz.prog 208 #[.pointer (some ⟨p,0,none⟩)] w (ToldP w p 2):=by
 go_enter Tryz.func208,Tryz.ntmps208
 go_wp2
 go_region
 go_wp2
 go_ret
 refine⟨w.heap.size,rfl,fun i hi=>?_,⟨by simp,by simp⟩,below_of_drew (one_more _ _)⟩
 have:i=0∨i=1:=by omega
 rcases this with rfl|rfl
 all_goals simp
theorem at_instr(w:World)(p:Nat):Calls Tryz.prog 209 #[.pointer (some ⟨p,0,none⟩)] w (ToldP w p 2):=by
 go_enter Tryz.func209,Tryz.ntmps209
 go_wp2
 go_region
 go_wp2
 go_ret
 refine⟨w.heap.size,rfl,fun i hi=>?_,⟨by simp,by simp⟩,below_of_drew (one_more _ _)⟩
 have:i=0∨i=1:=by omega
 rcases this with rfl|rfl
 all_goals simp
theorem at_issue(w:World)(p:Nat):Calls Tryz.prog 210 #[.pointer (some ⟨p,0,none⟩)] w (ToldP w p 5):=by
 go_enter Tryz.func210,Tryz.ntmps210
 go_wp2
 go_region
 go_wp2
 go_ret
 refine⟨w.heap.size,rfl,fun i hi=>?_,⟨by simp,by simp⟩,below_of_drew (one_more _ _)⟩
 have:i=0∨i=1∨i=2∨i=3∨i=4:=by omega
 rcases this with rfl|rfl|rfl|rfl|rfl
 all_goals simp
theorem at_move(w:World)(p:Nat):Calls Tryz.prog 211 #[.pointer (some ⟨p,0,none⟩)] w (ToldP w p 5):=by
 go_enter Tryz.func211,Tryz.ntmps211
 go_wp2
 go_region
 go_wp2
 go_ret
 refine⟨w.heap.size,rfl,fun i hi=>?_,⟨by simp,by simp⟩,below_of_drew (one_more _ _)⟩
 have:i=0∨i=1∨i=2∨i=3∨i=4:=by omega
 rcases this with rfl|rfl|rfl|rfl|rfl
 all_goals simp
theorem at_trade(w:World)(p:Nat):Calls Tryz.prog 212 #[.pointer (some ⟨p,0,none⟩)] w (ToldP w p 7):=by
 go_enter Tryz.func212,Tryz.ntmps212
 go_wp2
 go_region
 go_wp2
 go_ret
 refine⟨w.heap.size,rfl,fun i hi=>?_,⟨by simp,by simp⟩,below_of_drew (one_more _ _)⟩
 have:i=0∨i=1∨i=2∨i=3∨i=4∨i=5∨i=6:=by omega
 rcases this with rfl|rfl|rfl|rfl|rfl|rfl|rfl
 all_goals simp
theorem at_cancel(w:World)(p:Nat):Calls Tryz.prog 213 #[.pointer (some ⟨p,0,none⟩)] w (ToldP w p 1):=by
 go_enter Tryz.func213,Tryz.ntmps213
 go_wp2
 go_ret
 refine⟨w.heap.size,rfl,fun i hi=>?_,⟨by simp,by simp⟩,one_more _ _⟩
 have:i=0:=by omega
 rcases this with rfl
 all_goals simp
theorem at_settle(w:World)(p:Nat):Calls Tryz.prog 214 #[.pointer (some ⟨p,0,none⟩)] w (ToldP w p 2):=by
 go_enter Tryz.func214,Tryz.ntmps214
 go_wp2
 go_region
 go_wp2
 go_ret
 refine⟨w.heap.size,rfl,fun i hi=>?_,⟨by simp,by simp⟩,below_of_drew (one_more _ _)⟩
 have:i=0∨i=1:=by omega
 rcases this with rfl|rfl
 all_goals simp
theorem at_net(w:World)(p:Nat):Calls Tryz.prog 215 #[.pointer (some ⟨p,0,none⟩)] w (ToldP w p 3):=by
 go_enter Tryz.func215,Tryz.ntmps215
 go_wp2
 go_region
 go_wp2
 go_ret
 refine⟨w.heap.size,rfl,fun i hi=>?_,⟨by simp,by simp⟩,below_of_drew (one_more _ _)⟩
 have:i=0∨i=1∨i=2:=by omega
 rcases this with rfl|rfl|rfl
 all_goals simp
theorem at_fx(w:World)(p:Nat):Calls Tryz.prog 216 #[.pointer (some ⟨p,0,none⟩)] w (ToldP w p 7):=by
 go_enter Tryz.func216,Tryz.ntmps216
 go_wp2
 go_region
 go_wp2
 go_ret
 refine⟨w.heap.size,rfl,fun i hi=>?_,⟨by simp,by simp⟩,below_of_drew (one_more _ _)⟩
 have:i=0∨i=1∨i=2∨i=3∨i=4∨i=5∨i=6:=by omega
 rcases this with rfl|rfl|rfl|rfl|rfl|rfl|rfl
 all_goals simp
theorem at_split(w:World)(p:Nat):Calls Tryz.prog 217 #[.pointer (some ⟨p,0,none⟩)] w (ToldP w p 4):=by
 go_enter Tryz.func217,Tryz.ntmps217
 go_wp2
 go_region
 go_wp2
 go_ret
 refine⟨w.heap.size,rfl,fun i hi=>?_,⟨by simp,by simp⟩,below_of_drew (one_more _ _)⟩
 have:i=0∨i=1∨i=2∨i=3:=by omega
 rcases this with rfl|rfl|rfl|rfl
 all_goals simp
theorem at_pay(w:World)(p:Nat):Calls Tryz.prog 218 #[.pointer (some ⟨p,0,none⟩)] w (ToldP w p 4):=by
 go_enter Tryz.func218,Tryz.ntmps218
 go_wp2
 go_region
 go_wp2
 go_ret
 refine⟨w.heap.size,rfl,fun i hi=>?_,⟨by simp,by simp⟩,below_of_drew (one_more _ _)⟩
 have:i=0∨i=1∨i=2∨i=3:=by omega
 rcases this with rfl|rfl|rfl|rfl
 all_goals simp
theorem no_args{k:Int}(h:k<1∨11<k):nArgs k= -1:=by
 unfold nArgs
 repeat' split
 all_goals omega
theorem iNone(w:World)(k:Int)(h:k<1∨11<k):Calls Tryz.prog 39 #[.int .i64 k] w fun e w'=>e= .returned (.tuple #[.nilIface,.bool false])∧w'=w:=by
 have h1:(k==1)=false:=by simp;omega
 have h2:(k==2)=false:=by simp;omega
 have h3:(k==3)=false:=by simp;omega
 have h4:(k==4)=false:=by simp;omega
 have h5:(k==5)=false:=by simp;omega
 have h6:(k==6)=false:=by simp;omega
 have h7:(k==7)=false:=by simp;omega
 have h8:(k==8)=false:=by simp;omega
 have h9:(k==9)=false:=by simp;omega
 have h10:(k==10)=false:=by simp;omega
 have h11:(k==11)=false:=by simp;omega
 clear h
 go_enter Tryz.func39,Tryz.ntmps39
 go_wp2
 go_ret2
 exact⟨rfl,rfl⟩
theorem new_account(w:World):Calls Tryz.prog 39 #[.int .i64 1] w fun e w'=>e= .returned (.tuple #[.iface 117 (.pointer (some ⟨w.heap.size,0,none⟩)),.bool true])∧w'=w.alloc (.cells #[.int .i64 0,.int .i64 0] 119):=by
 go_enter Tryz.func39,Tryz.ntmps39
 go_wp2
 go_ret2
 exact⟨rfl,rfl⟩
theorem new_instr(w:World):Calls Tryz.prog 39 #[.int .i64 2] w fun e w'=>e= .returned (.tuple #[.iface 120 (.pointer (some ⟨w.heap.size,0,none⟩)),.bool true])∧w'=w.alloc (.cells #[.int .i64 0,.int .i64 0] 121):=by
 go_enter Tryz.func39,Tryz.ntmps39
 go_wp2
 go_ret2
 exact⟨rfl,rfl⟩
theorem new_issue(w:World):Calls Tryz.prog 39 #[.int .i64 3] w fun e w'=>e= .returned (.tuple #[.iface 122 (.pointer (some ⟨w.heap.size,0,none⟩)),.bool true])∧w'=w.alloc (.cells #[.int .i64 0,.int .i64 0,.int .i64 0,.int .i64 0,.int .i64 0] 124):=by
 go_enter Tryz.func39,Tryz.ntmps39
 go_wp2
 go_ret2
 exact⟨rfl,rfl⟩
theorem new_move(w:World):Calls Tryz.prog 39 #[.int .i64 4] w fun e w'=>e= .returned (.tuple #[.iface 125 (.pointer (some ⟨w.heap.size,0,none⟩)),.bool true])∧w'=w.alloc (.cells #[.int .i64 0,.int .i64 0,.int .i64 0,.int .i64 0,.int .i64 0] 127):=by
 go_enter Tryz.func39,Tryz.ntmps39
 go_wp2
 go_ret2
 exact⟨rfl,rfl⟩
theorem new_trade(w:World):Calls Tryz.prog 39 #[.int .i64 5] w fun e w'=>e= .returned (.tuple #[.iface 128 (.pointer (some ⟨w.heap.size,0,none⟩)),.bool true])∧w'=w.alloc (.cells #[.int .i64 0,.int .i64 0,.int .i64 0,.int .i64 0,.int .i64 0,.int .i64 0,.int .i64 0] 130):=by
 go_enter Tryz.func39,Tryz.ntmps39
 go_wp2
 go_ret2
 exact⟨rfl,rfl⟩
theorem new_cancel(w:World):Calls Tryz.prog 39 #[.int .i64 6] w fun e w'=>e= .returned (.tuple #[.iface 131 (.pointer (some ⟨w.heap.size,0,none⟩)),.bool true])∧w'=w.alloc (.cells #[.int .i64 0] 133):=by
 go_enter Tryz.func39,Tryz.ntmps39
 go_wp2
 go_ret2
 exact⟨rfl,rfl⟩
theorem new_settle(w:World):Calls Tryz.prog 39 #[.int .i64 7] w fun e w'=>e= .returned (.tuple #[.iface 134 (.pointer (some ⟨w.heap.size,0,none⟩)),.bool true])∧w'=w.alloc (.cells #[.int .i64 0,.int .i64 0] 136):=by
 go_enter Tryz.func39,Tryz.ntmps39
 go_wp2
 go_ret2
 exact⟨rfl,rfl⟩
theorem new_net(w:World):Calls Tryz.prog 39 #[.int .i64 8] w fun e w'=>e= .returned (.tuple #[.iface 137 (.pointer (some ⟨w.heap.size,0,none⟩)),.bool true])∧w'=w.alloc (.cells #[.int .i64 0,.int .i64 0,.int .i64 0] 139):=by
 go_enter Tryz.func39,Tryz.ntmps39
 go_wp2
 go_ret2
 exact⟨rfl,rfl⟩
theorem new_fx(w:World):Calls Tryz.prog 39 #[.int .i64 9] w fun e w'=>e= .returned (.tuple #[.iface 140 (.pointer (some ⟨w.heap.size,0,none⟩)),.bool true])∧w'=w.alloc (.cells #[.int .i64 0,.int .i64 0,.int .i64 0,.int .i64 0,.int .i64 0,.int .i64 0,.int .i64 0] 142):=by
 go_enter Tryz.func39,Tryz.ntmps39
 go_wp2
 go_ret2
 exact⟨rfl,rfl⟩
theorem new_split(w:World):Calls Tryz.prog 39 #[.int .i64 10] w fun e w'=>e= .returned (.tuple #[.iface 143 (.pointer (some ⟨w.heap.size,0,none⟩)),.bool true])∧w'=w.alloc (.cells #[.int .i64 0,.int .i64 0,.int .i64 0,.int .i64 0] 145):=by
 go_enter Tryz.func39,Tryz.ntmps39
 go_wp2
 go_ret2
 exact⟨rfl,rfl⟩
theorem new_pay(w:World):Calls Tryz.prog 39 #[.int .i64 11] w fun e w'=>e= .returned (.tuple #[.iface 146 (.pointer (some ⟨w.heap.size,0,none⟩)),.bool true])∧w'=w.alloc (.cells #[.int .i64 0,.int .i64 0,.int .i64 0,.int .i64 0] 148):=by
 go_enter Tryz.func39,Tryz.ntmps39
 go_wp2
 go_ret2
 exact⟨rfl,rfl⟩
end ICmd10
namespace ICall10
open SCmd ICmd10
open Lots (Says says_of)
theorem iFrom(x:Int)(b:Bool)(w:World)(hb:Says b (0≤x∧x≤1000000000000000)):Calls Tryz.prog 40 #[.int .i64 0,.int .i64 x] w fun e w'=>e= .returned (.bool b)∧w'=w:=by
 by_cases h0:0≤x
 ·by_cases h1:x≤1000000000000000
  ·have:=hb.of ⟨h0,h1⟩
   subst this
   clear hb
   go_enter Tryz.func40,Tryz.ntmps40
   go_wp2
   go_ret
   exact⟨rfl,rfl⟩
  ·have:=hb.not (fun r=>h1 r.2)
   subst this
   clear hb
   go_enter Tryz.func40,Tryz.ntmps40
   go_wp2
   go_ret
   exact⟨rfl,rfl⟩
 ·have:=hb.not (fun r=>h0 r.1)
  subst this
  clear hb
  go_enter Tryz.func40,Tryz.ntmps40
  go_wp2
  go_ret
  exact⟨rfl,rfl⟩
theorem enters{P:Program}{f:FuncId}{fn:Func}{c:Code}(hf:P.funcs[f]?=some fn)(hn:(fn.name== "runtime.NumGoroutine")=false)(hb:fn.body=some c)(args:Array Value)(w:World):
  (callFunc f args).run P w= .ok (.enter f args) w:=by
 have h1:fn.name≠ "runtime.NumGoroutine" :=by simpa using hn
 simp[callFunc,hf,h1,hb]
def Rw(w:World)(base t n p:Nat)(xs:List Int):Prop:=w.ownsRow base t n (.slice (some ⟨p,0,none⟩) 1 1) 1 (xs.map (Value.int .i64))
section
variable {w w':World} {base t n p:Nat} {xs:List Int}
theorem Rw.lt(h:Rw w base t n p xs):base≤p∧p<w.heap.size:=World.ownsRow.lt h p rfl
theorem Rw.free(h:Rw w base t n p xs)(i:Nat):w.frozen? ⟨p,i,none⟩=false:=World.ownsRow.frozenAt h i
theorem Rw.len(h:Rw w base t n p xs):xs.length=n:=by have:=h.1;simpa using this
theorem Rw.at(h:Rw w base t n p xs):Ints.At w p xs:=by
 intro i hi
 have hl:=h.len
 have:=World.ownsRow.cellAt h i (by omega)
 rw[this]
 simp[List.getD,hi]
theorem Rw.mono{base':Nat}(h:Rw w base t n p xs)(hb:base'≤base):Rw w base' t n p xs:=by
 refine⟨h.1,?_⟩
 rcases h.2 with⟨h1,_⟩|⟨g',c,cur,h1,h2,h3⟩
 ·simp at h1
 ·exact .inr ⟨g',c,cur,h1,Nat.le_trans hb h2,h3⟩
theorem Rw.below{B:Nat}(h:Rw w base t n p xs)(k:Below B w w')(hg:p<B):Rw w' base t n p xs:=by
 refine⟨h.1,?_⟩
 rcases h.2 with⟨h1,_⟩|⟨g',c,cur,h1,h2,h3,h4⟩
 ·simp at h1
 ·have e:p=g':=by simp at h1;exact h1.1
  subst e
  exact .inr ⟨p,c,cur,h1,h2,(k.block p hg).trans h3,h4⟩
theorem Rw.set(h:Rw w base t n p xs)(i:Nat)(x:Int):Rw (w.setCell ⟨p,i,none⟩ (.int .i64 x)) base t n p (xs.set i x)∧w.grownBy (w.setCell ⟨p,i,none⟩ (.int .i64 x)) (some p):=by
 have:=World.ownsRow.stored h i (.int .i64 x)
 refine⟨?_,this.2⟩
 unfold Rw
 rw[List.map_set]
 exact this.1
end
structure Made(k:Int)(t s f n:Nat):Prop where
 na:nArgs k=n
 nw:∀w,Calls Tryz.prog 39 #[.int .i64 k] w fun e w'=>e= .returned (.tuple #[.iface t (.pointer (some ⟨w.heap.size,0,none⟩)),.bool true])∧Rw w' w.heap.size s n w.heap.size (List.replicate n 0)∧Below w.heap.size w w'
 me:∀v w,(Go.method 377 t v "loop.example/g00110/impl.args").run Tryz.prog w= .ok (f,v) w
 en:∀(args:Array Value) (u:World),(callFunc f args).run Tryz.prog u= .ok (.enter f args) u
 ar:∀w p,Calls Tryz.prog f #[.pointer (some ⟨p,0,none⟩)] w (ToldP w p n)
theorem made1:Made 1 117 119 208 2:=by
 refine⟨rfl,fun w=>(new_account w).mono ?_,fun v w=>by kernel_rfl,fun _ _=>enters Tryz.func208 (by kernel_rfl) rfl _ _,fun w p=>at_account w p⟩
 rintro e u ⟨rfl,rfl⟩
 exact⟨rfl,⟨rfl,.inr ⟨w.heap.size,1,_,rfl,Nat.le_refl _,heap_alloc_new w _,Nat.le_refl _,by unfold maxLen;omega,rfl,rfl⟩⟩,one_more _ _⟩
theorem made2:Made 2 120 121 209 2:=by
 refine⟨rfl,fun w=>(new_instr w).mono ?_,fun v w=>by kernel_rfl,fun _ _=>enters Tryz.func209 (by kernel_rfl) rfl _ _,fun w p=>at_instr w p⟩
 rintro e u ⟨rfl,rfl⟩
 exact⟨rfl,⟨rfl,.inr ⟨w.heap.size,1,_,rfl,Nat.le_refl _,heap_alloc_new w _,Nat.le_refl _,by unfold maxLen;omega,rfl,rfl⟩⟩,one_more _ _⟩
theorem made3:Made 3 122 124 210 5:=by
 refine⟨rfl,fun w=>(new_issue w).mono ?_,fun v w=>by kernel_rfl,fun _ _=>enters Tryz.func210 (by kernel_rfl) rfl _ _,fun w p=>at_issue w p⟩
 rintro e u ⟨rfl,rfl⟩
 exact⟨rfl,⟨rfl,.inr ⟨w.heap.size,1,_,rfl,Nat.le_refl _,heap_alloc_new w _,Nat.le_refl _,by unfold maxLen;omega,rfl,rfl⟩⟩,one_more _ _⟩
theorem made4:Made 4 125 127 211 5:=by
 refine⟨rfl,fun w=>(new_move w).mono ?_,fun v w=>by kernel_rfl,fun _ _=>enters Tryz.func211 (by kernel_rfl) rfl _ _,fun w p=>at_move w p⟩
 rintro e u ⟨rfl,rfl⟩
 exact⟨rfl,⟨rfl,.inr ⟨w.heap.size,1,_,rfl,Nat.le_refl _,heap_alloc_new w _,Nat.le_refl _,by unfold maxLen;omega,rfl,rfl⟩⟩,one_more _ _⟩
theorem made5:Made 5 128 130 212 7:=by
 refine⟨rfl,fun w=>(new_trade w).mono ?_,fun v w=>by kernel_rfl,fun _ _=>enters Tryz.func212 (by kernel_rfl) rfl _ _,fun w p=>at_trade w p⟩
 rintro e u ⟨rfl,rfl⟩
 exact⟨rfl,⟨rfl,.inr ⟨w.heap.size,1,_,rfl,Nat.le_refl _,heap_alloc_new w _,Nat.le_refl _,by unfold maxLen;omega,rfl,rfl⟩⟩,one_more _ _⟩
theorem made6:Made 6 131 133 213 1:=by
 refine⟨rfl,fun w=>(new_cancel w).mono ?_,fun v w=>by kernel_rfl,fun _ _=>enters Tryz.func213 (by kernel_rfl) rfl _ _,fun w p=>at_cancel w p⟩
 rintro e u ⟨rfl,rfl⟩
 exact⟨rfl,⟨rfl,.inr ⟨w.heap.size,1,_,rfl,Nat.le_refl _,heap_alloc_new w _,Nat.le_refl _,by unfold maxLen;omega,rfl,rfl⟩⟩,one_more _ _⟩
theorem made7:Made 7 134 136 214 2:=by
 refine⟨rfl,fun w=>(new_settle w).mono ?_,fun v w=>by kernel_rfl,fun _ _=>enters Tryz.func214 (by kernel_rfl) rfl _ _,fun w p=>at_settle w p⟩
 rintro e u ⟨rfl,rfl⟩
 exact⟨rfl,⟨rfl,.inr ⟨w.heap.size,1,_,rfl,Nat.le_refl _,heap_alloc_new w _,Nat.le_refl _,by unfold maxLen;omega,rfl,rfl⟩⟩,one_more _ _⟩
theorem made8:Made 8 137 139 215 3:=by
 refine⟨rfl,fun w=>(new_net w).mono ?_,fun v w=>by kernel_rfl,fun _ _=>enters Tryz.func215 (by kernel_rfl) rfl _ _,fun w p=>at_net w p⟩
 rintro e u ⟨rfl,rfl⟩
 exact⟨rfl,⟨rfl,.inr ⟨w.heap.size,1,_,rfl,Nat.le_refl _,heap_alloc_new w _,Nat.le_refl _,by unfold maxLen;omega,rfl,rfl⟩⟩,one_more _ _⟩
theorem made9:Made 9 140 142 216 7:=by
 refine⟨rfl,fun w=>(new_fx w).mono ?_,fun v w=>by kernel_rfl,fun _ _=>enters Tryz.func216 (by kernel_rfl) rfl _ _,fun w p=>at_fx w p⟩
 rintro e u ⟨rfl,rfl⟩
 exact⟨rfl,⟨rfl,.inr ⟨w.heap.size,1,_,rfl,Nat.le_refl _,heap_alloc_new w _,Nat.le_refl _,by unfold maxLen;omega,rfl,rfl⟩⟩,one_more _ _⟩
theorem made10:Made 10 143 145 217 4:=by
 refine⟨rfl,fun w=>(new_split w).mono ?_,fun v w=>by kernel_rfl,fun _ _=>enters Tryz.func217 (by kernel_rfl) rfl _ _,fun w p=>at_split w p⟩
 rintro e u ⟨rfl,rfl⟩
 exact⟨rfl,⟨rfl,.inr ⟨w.heap.size,1,_,rfl,Nat.le_refl _,heap_alloc_new w _,Nat.le_refl _,by unfold maxLen;omega,rfl,rfl⟩⟩,one_more _ _⟩
theorem made11:Made 11 146 148 218 4:=by
 refine⟨rfl,fun w=>(new_pay w).mono ?_,fun v w=>by kernel_rfl,fun _ _=>enters Tryz.func218 (by kernel_rfl) rfl _ _,fun w p=>at_pay w p⟩
 rintro e u ⟨rfl,rfl⟩
 exact⟨rfl,⟨rfl,.inr ⟨w.heap.size,1,_,rfl,Nat.le_refl _,heap_alloc_new w _,Nat.le_refl _,by unfold maxLen;omega,rfl,rfl⟩⟩,one_more _ _⟩
def tyC(k:Int):Nat:=if k=1 then 117 else if k=2 then 120 else if k=3 then 122 else if k=4 then 125 else if k=5 then 128 else if k=6 then 131 else if k=7 then 134 else if k=8 then 137 else if k=9 then 140 else if k=10 then 143 else if k=11 then 146 else 0
theorem made_of(k:Int)(h:¬(k<1∨11<k)):∃s f n,Made k (tyC k) s f n:=by
 have:k=1∨k=2∨k=3∨k=4∨k=5∨k=6∨k=7∨k=8∨k=9∨k=10∨k=11:=by omega
 rcases this with rfl|rfl|rfl|rfl|rfl|rfl|rfl|rfl|rfl|rfl|rfl
 ·exact⟨_,_,_,made1⟩
 ·exact⟨_,_,_,made2⟩
 ·exact⟨_,_,_,made3⟩
 ·exact⟨_,_,_,made4⟩
 ·exact⟨_,_,_,made5⟩
 ·exact⟨_,_,_,made6⟩
 ·exact⟨_,_,_,made7⟩
 ·exact⟨_,_,_,made8⟩
 ·exact⟨_,_,_,made9⟩
 ·exact⟨_,_,_,made10⟩
 ·exact⟨_,_,_,made11⟩
structure Ca(w W:World)(k:Int)(g cap:Nat)(xs:List Int)(s n q j:Nat):Prop where
 cb:Cb w W k g cap xs
 lg:g<w.heap.size
 rw:Rw W w.heap.size s n (w.heap.size+1) (Ints.part xs n j)
 pt:Ptr W q (w.heap.size+1) n
 lq:w.heap.size+1<q∧q<W.heap.size
theorem Ca.next{w W:World}{k:Int}{g cap:Nat}{xs:List Int}{s n q j:Nat}(h:Ca w W k g cap xs s n q j)(hx:xs.length=n)(hj:j<n):Ca w (W.setCell ⟨w.heap.size+1,j,none⟩ (.int .i64 (xs.getD j 0))) k g cap xs s n q (j+1):=by
 obtain⟨r1,r2⟩:=h.rw.set j (xs.getD j 0)
 rw[Ints.part_step xs n j hx hj] at r1
 have lg:=h.lg
 have lq:=h.lq
 have ne:∀b,b≠w.heap.size+1→some b≠some (w.heap.size+1):=fun b hb e=>hb (by injection e)
 have cb:=h.cb
 exact⟨⟨fun i hi=>r2.cell (cb.r i hi) (ne _ (by simp;omega)),Nat.lt_of_lt_of_le cb.l r2.size,⟨r2.cell cb.c.1 (ne _ (by simp)),r2.cell cb.c.2 (ne _ (by simp))⟩,cb.b.setCell (p:=⟨w.heap.size+1,j,none⟩) (by simp) _,Nat.lt_of_lt_of_le cb.s r2.size⟩,lg,r1,fun i hi=>r2.cell (h.pt i hi) (ne _ (by simp;omega)),lq.1,Nat.lt_of_lt_of_le lq.2 r2.size⟩
def Of(w:World)(k:Int)(xs:List Int)(e:Ending)(w':World):Prop:=
 (¬CmOk k xs∧e= .returned (.tuple #[.nilIface,.bool false])∨CmOk k xs∧e= .returned (.tuple #[.iface (tyC k) (.pointer (some ⟨w.heap.size+1,0,none⟩)),.bool true])∧w.heap.size+1<w'.heap.size∧Ints.At w' (w.heap.size+1) xs)∧Below w.heap.size w w'
theorem iOf(w:World)(k:Int)(g cap:Nat)(xs:List Int)(h20:xs.length≤1048576)(hg:g<w.heap.size)(hr:Ints.At w g xs):
  Calls Tryz.prog 20 #[.agg #[.int .i64 k,.slice (some ⟨g,0,none⟩) xs.length cap]] w (Of w k xs):=by
 have L0:=zh (Cb.start (k:=k) (cap:=cap) hr hg 26)
 have LG:=zh hg
 clear hr hg
 by_cases h0:k<1∨11<k
 ·have N:=zh (show ¬CmOk k xs from fun h=>by have:=h.1;rw[no_args h0] at this;omega)
  have H0:=zh h0
  clear h0
  obtain⟨c0,c1⟩:=(zu L0).c
  go_enter Tryz.func20,Tryz.ntmps20
  go_wp2_with fail
  refine(iNone _ k (zu H0)).mono ?_
  rintro e u ⟨rfl,rfl⟩
  go_wp2
  go_ret2
  exact⟨.inl ⟨zu N,rfl⟩,(zu L0).b⟩
 obtain⟨s,f,n,M⟩:=made_of k h0
 have HM:=zh M
 have hm:=M.me
 have hE:=M.en
 clear h0 M
 generalize hT:tyC k=t at *
 have HT:=zh hT
 clear hT
 have c:=(zu L0).c
 obtain⟨c0,c1⟩:=c
 go_enter Tryz.func20,Tryz.ntmps20
 go_wp2_with fail
 refine((zu HM).nw _).mono ?_
 rintro e u1 ⟨rfl,r1,b1⟩
 have L1:=zh ((zu L0).step b1)
 have R1:=zh r1
 have s1:(w.alloc (.cells #[.int .i64 k,.slice (some ⟨g,0,none⟩) xs.length cap] 26)).heap.size=w.heap.size+1:=by simp
 rw[s1] at R1
 clear r1 b1 c0 c1 s1 L0
 obtain⟨c0,c1⟩:=(zu L1).c
 go_wp2_with fail
 clear hm hE
 refine((zu HM).ar _ (w.heap.size+1)).mono ?_
 rintro e u2 ⟨q,rfl,hp,hq,bb⟩
 have L2:=zh ((zu L1).step bb)
 have C0:=zh (show Rw u2 w.heap.size s n (w.heap.size+1) (List.replicate n 0)∧Ptr u2 q (w.heap.size+1) n∧w.heap.size+1<q∧q<u2.heap.size from⟨((zu R1).mono (by omega)).below bb (zu R1).lt.2,hp,Nat.lt_of_lt_of_le (zu R1).lt.2 hq.1,hq.2⟩)
 clear hp hq bb c0 c1 L1 R1
 obtain⟨c0,c1⟩:=(zu L2).c
 by_cases hn:xs.length=n
 case neg=>
  have N:=zh (show ¬CmOk k xs from fun h=>by have:=h.1;rw[(zu HM).na] at this;omega)
  have h1:((xs.length:Int) !=(n:Int))=true:=by simp;omega
  clear hn
  go_wp2
  go_ret2
  exact⟨.inl ⟨zu N,rfl⟩,(zu L2).b⟩
 subst hn
 have h1:((xs.length:Int) !=(xs.length:Int))=false:=by simp
 have A0:Hid (Ca w u2 k g cap xs s xs.length q 0):=zh ⟨zu L2,zu LG,by rw[Ints.part_zero];exact(zu C0).1,(zu C0).2.1,(zu C0).2.2⟩
 go_wp2
 clear h1 c0 c1 L2 C0
 go_loopw [28] (fun i wr=>∃(j:Nat),j≤xs.length∧i= .int .i64 j∧Ca w wr k g cap xs s xs.length q j∧Hid (∀i,i<j→0≤xs.getD i 0∧xs.getD i 0≤1000000000000000)) (fun i _=>xs.length-(intOf i).toNat)
 case atStart=>exact⟨0,by omega,rfl,zu A0,zh (fun i hi=>absurd hi (by omega))⟩
 case round=>
  obtain⟨j,hj,rfl,hS,HG⟩:=hrel
  clear A0
  by_cases t0:j<xs.length
  ·have d:=hS.cb.r j t0
   have p0:=hS.pt j t0
   have f0:=hS.rw.free j
   have d1:=hS.rw.at j (by rw[hS.rw.len];exact t0)
   have S0:=zh hS
   have kx:(j:Int)<xs.length:=by omega
   have BAD:=zh (show ¬(0≤xs.getD j 0∧xs.getD j 0≤1000000000000000)→¬CmOk k xs from fun h r=>h (r.2 j t0))
   have GOOD:=zh (show(0≤xs.getD j 0∧xs.getD j 0≤1000000000000000)→∀i,i<j+1→0≤xs.getD i 0∧xs.getD i 0≤1000000000000000 from fun h i hi=>by
    by_cases e:i=j
    ·subst e;exact h
    ·exact(zu HG) i (by omega))
   have NX:=zh (hS.next rfl t0)
   clear hS HG
   generalize (Ints.part xs xs.length j).getD j 0=old at *
   generalize xs.getD j 0=x at *
   obtain⟨b,hb⟩:=says_of (0≤x∧x≤1000000000000000)
   have HB:=zh hb
   clear hb
   go_wp2_with fail
   refine(iFrom x b _ (zu HB)).mono ?_
   rintro e u ⟨rfl,rfl⟩
   cases b with
   |false=>
    have N:=zh ((zu BAD) (zu HB).no)
    clear BAD GOOD HB NX
    go_wp2
    go_ret2
    exact⟨.inl ⟨zu N,rfl⟩,(zu S0).cb.b⟩
   |true=>
    have G:=zh ((zu GOOD) (zu HB).yes)
    clear BAD GOOD HB
    go_wp2
    go_roundw
    case rel=>exact⟨j+1,by omega,by go_num,zu NX,G⟩
    case measure=>simp[intOf];omega
  ·have Y:=zh (show CmOk k xs from⟨(zu HM).na.symm,fun i hi=>(zu HG) i (by omega)⟩)
   have e:j=xs.length:=by omega
   subst e
   have S0:=zh hS
   clear hS HG hj
   go_wp2
   go_ret2
   refine⟨.inr ⟨zu Y,by rw[zu HT];rfl,Nat.lt_trans (zu S0).lq.1 (zu S0).lq.2,?_⟩,(zu S0).cb.b⟩
   have:=(zu S0).rw.at
   rw[Ints.part_all xs _ rfl] at this
   exact this
theorem iCmdOk(w:World)(k:Int)(g cap:Nat)(xs:List Int)(b:Bool)(h20:xs.length≤1048576)(hg:g<w.heap.size)(hr:Ints.At w g xs)(hb:Says b (CmOk k xs)):
  Calls Tryz.prog 8 #[.agg #[.int .i64 k,.slice (some ⟨g,0,none⟩) xs.length cap]] w fun e w'=>e= .returned (.bool b)∧Below w.heap.size w w':=by
 have T:=zh hb
 have L0:=zh (Cb.start (k:=k) (cap:=cap) hr hg 26)
 clear hr hg hb
 obtain⟨c0,c1⟩:=(zu L0).c
 go_enter Tryz.func8,Tryz.ntmps8
 go_wp2_with fail
 refine(iOf _ k g cap xs h20 (zu L0).l (zu L0).r).mono ?_
 rintro e u ⟨hh,bb⟩
 have L1:=zh ((zu L0).step bb)
 clear bb c0 c1
 rcases hh with⟨no,rfl⟩|⟨yes,rfl,_⟩
 ·have F:=zh ((zu T).not no)
  clear no T
  go_wp2
  go_ret
  exact⟨by rw[zu F];rfl,(zu L1).b⟩
 ·have F:=zh ((zu T).of yes)
  clear yes T
  go_wp2
  go_ret
  exact⟨by rw[zu F];rfl,(zu L1).b⟩
end ICall10
end Go.Proofs.YtcjgepkdpkhljaaGreat
