import Derived.Test.YtdkmjclbhfnegaaDoorKA13
import Derived.Deep.RegionHeld3
namespace Go.Proofs.YtdkmjclbhfnegaaDoor
open Go.RowKit
set_option maxRecDepth 100000
set_option linter.unusedVariables false
set_option maxHeartbeats 8000000
section
section
end
section
end
section
end
section
end
section
end
section
end
end
end Go.Proofs.YtdkmjclbhfnegaaDoor
