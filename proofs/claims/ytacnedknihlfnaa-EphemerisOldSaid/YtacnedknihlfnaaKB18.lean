import Derived.Test.YtacnedknihlfnaaKB17
import Derived.Deep.RegionHeld3
import Derived.Deep.LoopGhost
namespace Go.Proofs.Ytacnedknihlfnaa
open Go.RowKit
set_option maxRecDepth 100000
set_option linter.unusedVariables false
set_option maxHeartbeats 8000000
theorem limz_add {x y:Int} {a b:Nat} (h1:Lim x.natAbs a) (h2:Lim y.natAbs b) (c:Nat) (ha:a<c) (hb:b<c):Lim (x+y).natAbs c:=(h1.add h2 c ha hb).le (Int.natAbs_add_le x y)
theorem limz_mul {x y:Int} {a b:Nat} (h1:Lim x.natAbs a) (h2:Lim y.natAbs b):Lim (x*y).natAbs (a+b):=by rw[Int.natAbs_mul];exact h1.mul h2
end Go.Proofs.Ytacnedknihlfnaa
