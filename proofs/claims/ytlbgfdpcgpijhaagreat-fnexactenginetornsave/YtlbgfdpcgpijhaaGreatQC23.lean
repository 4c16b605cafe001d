/- Lemmas. -/
import Derived.Test.YtlbgfdpcgpijhaaGreatQC0
import Derived.Conc.MuLib
open Go.ChangeShapes Go.WideShapes
set_option linter.unusedVariables false
set_option linter.unusedSimpArgs false
set_option maxRecDepth 100000
set_option maxHeartbeats 32000000
namespace Go.Proofs.YtlbgfdpcgpijhaaGreat
namespace Locks17
abbrev muLink:Go.Conc.Locks.MuLink:={lock:=202,unlock:=203,ilock:=225,iunlock:=226,lockSlow:=254,unlockSlow:=257,disable:=250,enable:=252,acquire:=253,relMerge:=255,cas32:=251,add32:=256,tMutex:=93,tIMutex:=91,tPMutex:=231,tPIMutex:=248,tPI32:=250,tUP:=252,tNoCopy:=88,tU32:=89}
theorem muLib:Go.Conc.Locks.MuLib Tryz.prog muLink:=
 ⟨Tryz.func202,Tryz.func203,Tryz.func225,Tryz.func226,Tryz.func250,Tryz.func252,Tryz.func253,Tryz.func255,Tryz.func251,Tryz.func256,Tryz.underlying91,Tryz.runUnderlying91,Tryz.sizeOf91,Tryz.isAgg91,Tryz.zeroValue91,Tryz.underlying93,Tryz.runUnderlying93,Tryz.sizeOf93,Tryz.isAgg93,Tryz.zeroValue93,Tryz.underlying231,Tryz.runUnderlying231,Tryz.sizeOf231,Tryz.isAgg231,Tryz.zeroValue231,Tryz.underlying248,Tryz.runUnderlying248,Tryz.sizeOf248,Tryz.isAgg248,Tryz.zeroValue248,Tryz.underlying250,Tryz.runUnderlying250,Tryz.sizeOf250,Tryz.isAgg250,Tryz.zeroValue250,Tryz.underlying252,Tryz.runUnderlying252,Tryz.sizeOf252,Tryz.isAgg252,Tryz.zeroValue252,Tryz.underlying88,Tryz.runUnderlying88,Tryz.sizeOf88,Tryz.isAgg88,Tryz.zeroValue88,Tryz.underlying21,Tryz.runUnderlying21,Tryz.sizeOf21,Tryz.isAgg21,Tryz.zeroValue21,(by kernel_rfl)⟩
end Locks17
end Go.Proofs.YtlbgfdpcgpijhaaGreat
