import Derived.Test.YtdkmjclbhfnegaaDoorKA7
import Derived.Deep.LoopGhost
import Derived.Deep.DeepCutAuto
import Derived.Deep.CutBlock
import Derived.BigRegion
import Derived.Deep.RegionHeld3
import Derived.Laws.CopyOwn
import Derived.WalkMore
import Derived.ScopeJumps
namespace Go.Proofs.YtdkmjclbhfnegaaDoor
open Go.RowKit
set_option maxRecDepth 100000
set_option linter.unusedVariables false
set_option maxHeartbeats 8000000
section
section
end
section
end
section
end
section
end
section
end
section
end
section
end
section
end
section
end
section
def gm (a:Act) (w:World):Nat:=
 match a.tmps.getD 6 undef with
 | .slice (some ad) n _=>match w.heap[ad.block]? with
  |some (.cells cur _ _)=>vl B32 ((cur.toList.take n).map (fun v=>(intOf v).toNat))
  |_=>0
 |_=>0
end
section
end
end
end Go.Proofs.YtdkmjclbhfnegaaDoor
