/- law03's awake. -/
import Derived.Test.YtnljadejcfgmaaaLawR
import Derived.Test.YtnljadejcfgmaaaGU
import Derived.Test.YtnljadejcfgmaaaGF
import Derived.Test.YtnljadejcfgmaaaGL
import Derived.Deep.RegionHeld3
namespace Go.Proofs.Ytnljadejcfgmaaa
open Go.RowKit
set_option maxRecDepth 100000

end Go.Proofs.Ytnljadejcfgmaaa
