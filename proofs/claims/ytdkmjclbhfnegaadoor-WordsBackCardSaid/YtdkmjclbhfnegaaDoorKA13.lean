import Derived.Test.YtdkmjclbhfnegaaDoorKA8
import Derived.Test.YtdkmjclbhfnegaaDoorKA12
import Derived.Deep.RegionHeld3
import Derived.Deep.LoopGhost
namespace Go.Proofs.YtdkmjclbhfnegaaDoor
open Go.RowKit
set_option maxRecDepth 100000
set_option linter.unusedVariables false
set_option maxHeartbeats 8000000
section
section
end
section
def fr (a b:Int):Int:=if b=0 then 0 else a.fmod b
end
section
end
section
end
section
end
end
end Go.Proofs.YtdkmjclbhfnegaaDoor
