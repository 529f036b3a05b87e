import Derived.Test.YtplngpfpcheofaaKC17
import Derived.Deep.RegionHeld3
namespace Go.Proofs.Ytplngpfpcheofaa
open Go.RowKit
set_option maxRecDepth 100000
set_option linter.unusedVariables false
set_option maxHeartbeats 8000000
section
section
theorem cell_bd {w:World} {a:Addr} {v:Value} (_h:w.cell? a=some v):Below w.heap.size w w.drew:=(Below.refl _ _).drew
end
section
end
section
end
section
end
section
end
section
end
end
end Go.Proofs.Ytplngpfpcheofaa
