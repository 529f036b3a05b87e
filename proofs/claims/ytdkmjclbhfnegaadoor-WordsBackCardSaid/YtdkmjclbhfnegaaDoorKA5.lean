import Derived.Test.YtdkmjclbhfnegaaDoorKA4
import Derived.Shelf.Small.Bits
import Derived.Lib.Walk
import Derived.Lib.SliceRun
import Derived.Deep.DeepCutAuto
import Derived.Deep.LoopGhost
import Derived.BigRegion
import Derived.Deep.RegionHeld3
import Derived.Test.YtdkmjclbhfnegaaDoorRows
namespace Go.Proofs.YtdkmjclbhfnegaaDoor
open Go.RowKit
set_option maxRecDepth 100000
set_option linter.unusedVariables false
set_option maxHeartbeats 8000000
section
section
end
section
end
section
end
section
end
section
end
section
end
section
end
end
end Go.Proofs.YtdkmjclbhfnegaaDoor
