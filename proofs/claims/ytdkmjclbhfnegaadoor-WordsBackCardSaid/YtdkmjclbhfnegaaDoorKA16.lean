import Derived.Test.YtdkmjclbhfnegaaDoorKA9
import Derived.Test.YtdkmjclbhfnegaaDoorKA15
import Derived.Deep.RegionHeld3
import Derived.OpenShut
import Derived.Deep.LoopGhost
namespace Go.Proofs.YtdkmjclbhfnegaaDoor
open Go.RowKit
set_option maxRecDepth 100000
set_option linter.unusedVariables false
set_option maxHeartbeats 8000000
section
section
end
section
end
section
end
section
end
end
end Go.Proofs.YtdkmjclbhfnegaaDoor
