/- Lemmas. -/
import Derived.Test.YtppkkmaoaiopaaaGreatQF0
import Derived.Conc.MuLib
open Go.ChangeShapes Go.WideShapes
set_option linter.unusedVariables false
set_option linter.unusedSimpArgs false
set_option maxRecDepth 100000
set_option maxHeartbeats 32000000
namespace Go.Proofs.YtppkkmaoaiopaaaGreat
namespace Locks17
abbrev muLink:Go.Conc.Locks.MuLink:={lock:=141,unlock:=142,ilock:=166,iunlock:=167,lockSlow:=197,unlockSlow:=200,disable:=193,enable:=195,acquire:=196,relMerge:=198,cas32:=194,add32:=199,tMutex:=107,tIMutex:=105,tPMutex:=197,tPIMutex:=214,tPI32:=216,tUP:=218,tNoCopy:=102,tU32:=103}
theorem muLib:Go.Conc.Locks.MuLib Tryz.prog muLink:=
 ⟨Tryz.func141,Tryz.func142,Tryz.func166,Tryz.func167,Tryz.func193,Tryz.func195,Tryz.func196,Tryz.func198,Tryz.func194,Tryz.func199,Tryz.underlying105,Tryz.runUnderlying105,Tryz.sizeOf105,Tryz.isAgg105,Tryz.zeroValue105,Tryz.underlying107,Tryz.runUnderlying107,Tryz.sizeOf107,Tryz.isAgg107,Tryz.zeroValue107,Tryz.underlying197,Tryz.runUnderlying197,Tryz.sizeOf197,Tryz.isAgg197,Tryz.zeroValue197,Tryz.underlying214,Tryz.runUnderlying214,Tryz.sizeOf214,Tryz.isAgg214,Tryz.zeroValue214,Tryz.underlying216,Tryz.runUnderlying216,Tryz.sizeOf216,Tryz.isAgg216,Tryz.zeroValue216,Tryz.underlying218,Tryz.runUnderlying218,Tryz.sizeOf218,Tryz.isAgg218,Tryz.zeroValue218,Tryz.underlying102,Tryz.runUnderlying102,Tryz.sizeOf102,Tryz.isAgg102,Tryz.zeroValue102,Tryz.underlying21,Tryz.runUnderlying21,Tryz.sizeOf21,Tryz.isAgg21,Tryz.zeroValue21,(by kernel_rfl)⟩
end Locks17
end Go.Proofs.YtppkkmaoaiopaaaGreat
