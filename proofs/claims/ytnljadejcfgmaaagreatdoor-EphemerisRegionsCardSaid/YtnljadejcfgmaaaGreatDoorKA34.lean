import Derived.Test.YtnljadejcfgmaaaGreatDoorKA33
namespace Go.Proofs.YtnljadejcfgmaaaGreatDoor
open Go.RowKit
set_option maxRecDepth 100000
set_option linter.unusedVariables false
set_option maxHeartbeats 8000000
theorem qoSunO {v1:Value} {p1:Rat} {k1:Nat} {w:World} (hT:TabD w) (x1:Rl p1 k1 w v1) (a1:k1≤100:=by omega):Calls Tryz.prog 78 #[v1] w (Ret (kq (sunV (p1)) ((3*k1+100))) w):=rq_ret (oSun_any _ (p1) k1 _ hT x1.1 x1.2 (by omega)) (sunV_lim x1.2)
end Go.Proofs.YtnljadejcfgmaaaGreatDoor
