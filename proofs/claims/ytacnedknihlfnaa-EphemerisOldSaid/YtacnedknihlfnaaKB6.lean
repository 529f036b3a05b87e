import Derived.Test.YtacnedknihlfnaaKB5
import Derived.Deep.LoopGhost
namespace Go.Proofs.Ytacnedknihlfnaa
open Go.RowKit
set_option maxRecDepth 100000
set_option linter.unusedVariables false
set_option maxHeartbeats 8000000
section
section
end
section
end
end
end Go.Proofs.Ytacnedknihlfnaa
